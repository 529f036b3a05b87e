import Derived.Test.YtnljadejcfgmaaaGreatDoorKA30
import Derived.Test.YtnljadejcfgmaaaGreatDoorKA42
namespace Go.Proofs.YtnljadejcfgmaaaGreatDoor
open Go.RowKit
set_option maxRecDepth 100000
set_option linter.unusedVariables false
set_option maxHeartbeats 8000000
theorem solarSteps_walk (r n wa wb wc wd:Int) (w:World) (hT:TabD w):
 Calls Tryz.prog 6 #[.int .i64 r,.int .i64 n,.agg #[.int .i64 wa,.int .i64 wb,.int .i64 wc,.int .i64 wd]] w (ValPost w (.bool true)):=by
 obtain⟨pa,hpa⟩:∃z:Int,gA 60 120 wa wb=z:=⟨_,rfl⟩
 obtain⟨pb,hpb⟩:∃z:Int,gB wb=z:=⟨_,rfl⟩
 obtain⟨pc,hpc⟩:∃z:Int,gA 180 360 wc wd=z:=⟨_,rfl⟩
 obtain⟨pd,hpd⟩:∃z:Int,gB wd=z:=⟨_,rfl⟩
 have hok:PlOk pa pb pc pd:=by rw[←hpa,←hpb,←hpc,←hpd];exact good_ok wa wb wc wd
 obtain⟨er,her⟩:∃z:Int,r%4=z:=⟨_,rfl⟩
 have her0:0≤er∧er≤3:=by omega
 obtain⟨ny,hny⟩:∃z:Int,inD n=z:=⟨_,rfl⟩
 have hin0:=inD_bd n
 rw[hny] at hin0
 have hck:ckE er pa pb pc pd=0:=ckE_ok (by omega) (by omega) hok
 by_cases hM:ny=3000000
 ·have st:=St.start w
  refine E.enter (nt:=103) (L:=[(0,.int .i64 r),(1,.int .i64 n),(2,.agg #[.int .i64 wa,.int .i64 wb,.int .i64 wc,.int .i64 wd])]) Tryz.func6 rfl rfl rfl (args_cons (i:=0) rfl (args_cons (i:=1) rfl (args_cons (i:=2) rfl args_nil))) ?_
  intro a hF
  refine wp_seq ?_
  refine E.seq ?_
  refine S.box st hF (hF.at 2 rfl) rfl rfl fun g5 w1 a st hF=>?_
  refine E.opv hF (r_assign ev_c) rfl rfl rfl rfl fun a hF=>?_
  refine E.nil ?_
  refine wp_seq ?_
  refine wp_seq ?_
  refine E.seq ?_
  refine S.callx st hF (rgc k13 map0) (awake18_any _ (hT.below st.bel)) rfl rfl rfl rfl fun w2 a st hF=>?_
  refine E.opv hF (r_un (hF.at 0 rfl) (bn_not _ false rfl)) rfl rfl rfl rfl fun a hF=>?_
  refine E.nil ?_
  refine wp_cond_false (hF.at 0 rfl) ?_
  refine wp_skip ?_
  refine E.norm ?_
  refine wp_seq ?_
  have hv0:=hF.at 4 rfl
  replace hF:=Fr.pick (L':=[(16,.bool false),(15,.bool true),(6,.bool false),(5,.pointer (some ⟨g5,0,none⟩)),(1,.int .i64 n),(2,.agg #[.int .i64 wa,.int .i64 wb,.int .i64 wc,.int .i64 wd])]) hF [0,1,2,3,5,6] rfl
  refine E.rgap 9 7 0 mixed hF hv0 [17,18,19,20,21,22,8,0,7] [_,.ex (.int .i64 er),_,_,_,_,kb w2 [.int .i64 0,.int .i64 0,.int .i64 0,.int .i64 0],.ex (.int .i64 er),.ex (.int .i64 ny)] [6] ⟨fun _ _ ⟨g,e,_,o⟩=>⟨g,e,o.lt⟩,trivial⟩ (by decide+kernel) rfl rfl rfl rfl ⟨rm 0 rfl,(by intro a' w' hF' hb hd;have e17:=sHe hd 0 17 rfl rfl rfl rfl;exact dv0 (r_bin e17 ev_c eg_scalar (and_3 her)) rfl rfl rfl),rm 4 rfl,ck st k14 rfl fun _ s=>ex_ret (inD_at _ hny),rb st ty_WHR 3 0 rfl,ck st k15 rfl fun _ s=>ex_ret (where_at _ hpa hpb hpc hpd),rai ty_Plc rfl,(by intro a' w' hF' hb hd;have e18:=sHe hd 0 18 rfl rfl rfl rfl;exact dv0 (r_assign e18) rfl rfl rfl),(by intro a' w' hF' hb hd;have e20:=sHe hd 0 20 rfl rfl rfl rfl;exact dv0 (r_assign e20) rfl rfl rfl),trivial⟩ ?_
  intro a w3 hF bb hall hne
  have s0:=st
  replace st:=st.to bb
  replace hF:=rE hall hF 5 rfl rfl
  obtain⟨_,e8,g8,rfl,ge8,o8⟩:=sS hall 6 8 rfl rfl
  replace st:=st.push o8 (Nat.le_trans s0.bel.size ge8) (s0.ne ge8)
  clear o8
  replace hF:=hF.add e8
  replace hF:=rE hall hF 7 rfl rfl
  replace hF:=rE hall hF 8 rfl rfl
  clear hall bb hne s0 hv0
  refine S.stoI st hF 0 rfl (hF.at 2 rfl) (hF.at 3 rfl) ty_Plc rfl rfl rfl fun w4 a st hF=>?_
  refine E.nil ?_
  refine wp_seq ?_
  refine wp_seq ?_
  refine E.seq ?_
  refine E.opv hF (r_move (hF.at 0 rfl)) rfl rfl rfl rfl fun a hF=>?_
  refine E.opv hF (r_bin (hF.at 0 rfl) ev_c eg_scalar (bi_int (ic_eql (c:=true) (dec_tt (by omega))) (by simp))) rfl rfl rfl rfl fun a hF=>?_
  refine E.nil ?_
  refine wp_cond_true (hF.at 0 rfl) ?_
  refine wp_seq ?_
  refine E.seq ?_
  refine E.opv hF (r_move (hF.at 3 rfl)) rfl rfl rfl rfl fun a hF=>?_
  refine E.opv hF (r_move (hF.at 3 rfl)) rfl rfl rfl rfl fun a hF=>?_
  refine E.opv hF (r_bin (hF.at 0 rfl) ev_c eg_scalar (ia_add (by omega) (by omega))) rfl rfl rfl rfl fun a hF=>?_
  refine E.opv hF (r_load (hF.at 7 rfl) (ld_all ty_Plc (st.bk 0 rfl) rfl)) rfl rfl rfl rfl fun a hF=>?_
  refine S.callx st hF (rgc k24 (map3 (hF.at 3 rfl) (hF.at 1 rfl) (hF.at 0 rfl))) (soOfR_any er (ny+1) pa pb pc pd _ (by omega) (by omega)) rfl rfl rfl rfl fun w5 a st hF=>?_
  refine E.opv hF (r_move (hF.at 0 rfl)) rfl rfl rfl rfl fun a hF=>?_
  refine E.opv hF (r_extract (v:= .agg #[.int .i64 0,.int .i64 0,.int .i64 0]) (hF.at 0 rfl) rfl) rfl rfl rfl rfl fun a hF=>?_
  refine E.opv hF (r_extract (v:= .int .i64 2) (hF.at 1 rfl) rfl) rfl rfl rfl rfl fun a hF=>?_
  refine S.new st hF 1 rfl ty_SOD rfl rfl rfl rfl rfl fun g9 w6 a st hF=>?_
  refine E.opv hF (r_assign (hF.at 1 rfl)) rfl rfl rfl rfl fun a hF=>?_
  refine E.nil ?_
  refine wp_seq ?_
  refine E.seq ?_
  refine E.opv hF (r_move (hF.at 0 rfl)) rfl rfl rfl rfl fun a hF=>?_
  refine E.opv hF (r_bin (hF.at 0 rfl) ev_c eg_scalar (bi_int (ic_eql (c:=true) (by decide)) (by simp))) rfl rfl rfl rfl fun a hF=>?_
  refine E.opset (L':=[(6,.bool true),(34,.bool true),(33,.int .i64 2),(10,.int .i64 2),(9,.pointer (some ⟨g9,0,none⟩)),(32,.int .i64 2),(31,.agg #[.int .i64 0,.int .i64 0,.int .i64 0]),(25,.tuple #[.agg #[.int .i64 0,.int .i64 0,.int .i64 0],.int .i64 2]),(30,.tuple #[.agg #[.int .i64 0,.int .i64 0,.int .i64 0],.int .i64 2]),(29,.agg #[.int .i64 pa,.int .i64 pb,.int .i64 pc,.int .i64 pd]),(28,.int .i64 (ny+1)),(27,.int .i64 ny),(26,.int .i64 er),(24,.bool true),(23,.int .i64 ny),(7,.int .i64 ny),(0,.int .i64 er),(8,.pointer (some ⟨g8,0,none⟩)),(22,.agg #[.int .i64 pa,.int .i64 pb,.int .i64 pc,.int .i64 pd]),(16,.bool false),(15,.bool true),(5,.pointer (some ⟨g5,0,none⟩)),(1,.int .i64 n),(2,.agg #[.int .i64 wa,.int .i64 wb,.int .i64 wc,.int .i64 wd])]) hF (r_assign (hF.at 0 rfl)) rfl rfl rfl rfl fun a hF=>?_
  refine E.nil ?_
  refine wp_ret ?_
  have bel:=st.bel
  refine bodyPost_ret (res_tmp Tryz.results6 (hF.at 0 rfl)) hF.dfr ?_
  exact⟨rfl,bel⟩
 ·have hk3:=cr_in3 er (n:=ny) hok (by omega) (by omega)
  have hk4:=cr_in3 er (n:=ny+1) hok (by omega) (by omega)
  have hfs:=fs_spec (cf_ok er hok) ny
  have hft:=fs_spec (cf_ok er hok) (ny+1)
  have hst:=so_next er hok ny
  rcases hst with hst|hst
  ·have st:=St.start w
   refine E.enter (nt:=103) (L:=[(0,.int .i64 r),(1,.int .i64 n),(2,.agg #[.int .i64 wa,.int .i64 wb,.int .i64 wc,.int .i64 wd])]) Tryz.func6 rfl rfl rfl (args_cons (i:=0) rfl (args_cons (i:=1) rfl (args_cons (i:=2) rfl args_nil))) ?_
   intro a hF
   refine wp_seq ?_
   refine E.seq ?_
   refine S.box st hF (hF.at 2 rfl) rfl rfl fun g5 w1 a st hF=>?_
   refine E.opv hF (r_assign ev_c) rfl rfl rfl rfl fun a hF=>?_
   refine E.nil ?_
   refine wp_seq ?_
   refine wp_seq ?_
   refine E.seq ?_
   refine S.callx st hF (rgc k13 map0) (awake18_any _ (hT.below st.bel)) rfl rfl rfl rfl fun w2 a st hF=>?_
   refine E.opv hF (r_un (hF.at 0 rfl) (bn_not _ false rfl)) rfl rfl rfl rfl fun a hF=>?_
   refine E.nil ?_
   refine wp_cond_false (hF.at 0 rfl) ?_
   refine wp_skip ?_
   refine E.norm ?_
   refine wp_seq ?_
   have hv0:=hF.at 4 rfl
   replace hF:=Fr.pick (L':=[(16,.bool false),(15,.bool true),(6,.bool false),(5,.pointer (some ⟨g5,0,none⟩)),(1,.int .i64 n),(2,.agg #[.int .i64 wa,.int .i64 wb,.int .i64 wc,.int .i64 wd])]) hF [0,1,2,3,5,6] rfl
   refine E.rgap 9 7 0 mixed hF hv0 [17,18,19,20,21,22,8,0,7] [_,.ex (.int .i64 er),_,_,_,_,kb w2 [.int .i64 0,.int .i64 0,.int .i64 0,.int .i64 0],.ex (.int .i64 er),.ex (.int .i64 ny)] [6] ⟨fun _ _ ⟨g,e,_,o⟩=>⟨g,e,o.lt⟩,trivial⟩ (by decide+kernel) rfl rfl rfl rfl ⟨rm 0 rfl,(by intro a' w' hF' hb hd;have e17:=sHe hd 0 17 rfl rfl rfl rfl;exact dv0 (r_bin e17 ev_c eg_scalar (and_3 her)) rfl rfl rfl),rm 4 rfl,ck st k14 rfl fun _ s=>ex_ret (inD_at _ hny),rb st ty_WHR 3 0 rfl,ck st k15 rfl fun _ s=>ex_ret (where_at _ hpa hpb hpc hpd),rai ty_Plc rfl,(by intro a' w' hF' hb hd;have e18:=sHe hd 0 18 rfl rfl rfl rfl;exact dv0 (r_assign e18) rfl rfl rfl),(by intro a' w' hF' hb hd;have e20:=sHe hd 0 20 rfl rfl rfl rfl;exact dv0 (r_assign e20) rfl rfl rfl),trivial⟩ ?_
   intro a w3 hF bb hall hne
   have s0:=st
   replace st:=st.to bb
   replace hF:=rE hall hF 5 rfl rfl
   obtain⟨_,e8,g8,rfl,ge8,o8⟩:=sS hall 6 8 rfl rfl
   replace st:=st.push o8 (Nat.le_trans s0.bel.size ge8) (s0.ne ge8)
   clear o8
   replace hF:=hF.add e8
   replace hF:=rE hall hF 7 rfl rfl
   replace hF:=rE hall hF 8 rfl rfl
   clear hall bb hne s0 hv0
   refine S.stoI st hF 0 rfl (hF.at 2 rfl) (hF.at 3 rfl) ty_Plc rfl rfl rfl fun w4 a st hF=>?_
   refine E.nil ?_
   refine wp_seq ?_
   refine wp_seq ?_
   refine E.seq ?_
   refine E.opv hF (r_move (hF.at 0 rfl)) rfl rfl rfl rfl fun a hF=>?_
   refine E.opv hF (r_bin (hF.at 0 rfl) ev_c eg_scalar (bi_int (ic_eql (c:=false) (dec_ff (by omega))) (by simp))) rfl rfl rfl rfl fun a hF=>?_
   refine E.nil ?_
   refine wp_cond_false (hF.at 0 rfl) ?_
   refine wp_skip ?_
   refine E.norm ?_
   refine wp_seq ?_
   refine E.seq ?_
   refine E.opv hF (r_move (hF.at 3 rfl)) rfl rfl rfl rfl fun a hF=>?_
   refine E.opv hF (r_move (hF.at 3 rfl)) rfl rfl rfl rfl fun a hF=>?_
   refine E.opv hF (r_load (hF.at 6 rfl) (ld_all ty_Plc (st.bk 0 rfl) rfl)) rfl rfl rfl rfl fun a hF=>?_
   refine S.callx st hF (rgc k24 (map3 (hF.at 2 rfl) (hF.at 1 rfl) (hF.at 0 rfl))) (soOf_any er ny pa pb pc pd _ (hT.below st.bel) (by first|assumption|exact⟨by omega,by omega,by omega,by omega,by omega,by omega,by omega,by omega⟩) (by omega) (by omega) (by omega) (by omega)) rfl rfl rfl rfl fun w5 a st hF=>?_
   refine E.opv hF (r_move (hF.at 0 rfl)) rfl rfl rfl rfl fun a hF=>?_
   refine E.opv hF (r_extract (v:= .agg #[.int .i64 (kaV (criQ er ny pa pb pc pd)/12-1955880000-3179),.int .i64 (kaV (criQ er ny pa pb pc pd)%12+1),.int .i64 (ny-fsD (criF er pa pb pc pd) ny+1)]) (hF.at 0 rfl) rfl) rfl rfl rfl rfl fun a hF=>?_
   refine E.opv hF (r_extract (v:= .int .i64 0) (hF.at 1 rfl) rfl) rfl rfl rfl rfl fun a hF=>?_
   refine S.new st hF 1 rfl ty_SOD rfl rfl rfl rfl rfl fun g11 w6 a st hF=>?_
   refine E.opv hF (r_assign (hF.at 1 rfl)) rfl rfl rfl rfl fun a hF=>?_
   refine E.nil ?_
   refine wp_seq ?_
   refine E.seq ?_
   refine E.opv hF (r_move (hF.at 12 rfl)) rfl rfl rfl rfl fun a hF=>?_
   refine E.opv hF (r_move (hF.at 12 rfl)) rfl rfl rfl rfl fun a hF=>?_
   refine E.opv hF (r_bin (hF.at 0 rfl) ev_c eg_scalar (ia_add (by omega) (by omega))) rfl rfl rfl rfl fun a hF=>?_
   refine E.opv hF (r_load (hF.at 16 rfl) (ld_all ty_Plc (st.bk 1 rfl) rfl)) rfl rfl rfl rfl fun a hF=>?_
   refine S.callx st hF (rgc k24 (map3 (hF.at 3 rfl) (hF.at 1 rfl) (hF.at 0 rfl))) (soOf_any er (ny+1) pa pb pc pd _ (hT.below st.bel) (by first|assumption|exact⟨by omega,by omega,by omega,by omega,by omega,by omega,by omega,by omega⟩) (by omega) (by omega) (by omega) (by omega)) rfl rfl rfl rfl fun w7 a st hF=>?_
   refine E.opv hF (r_move (hF.at 0 rfl)) rfl rfl rfl rfl fun a hF=>?_
   refine E.opv hF (r_extract (v:= .agg #[.int .i64 (kaV (criQ er (ny+1) pa pb pc pd)/12-1955880000-3179),.int .i64 (kaV (criQ er (ny+1) pa pb pc pd)%12+1),.int .i64 (ny+1-fsD (criF er pa pb pc pd) (ny+1)+1)]) (hF.at 0 rfl) rfl) rfl rfl rfl rfl fun a hF=>?_
   refine E.opv hF (r_extract (v:= .int .i64 0) (hF.at 1 rfl) rfl) rfl rfl rfl rfl fun a hF=>?_
   refine S.new st hF 1 rfl ty_SOD rfl rfl rfl rfl rfl fun g13 w8 a st hF=>?_
   refine E.opv hF (r_assign (hF.at 1 rfl)) rfl rfl rfl rfl fun a hF=>?_
   refine E.nil ?_
   refine wp_seq ?_
   refine wp_seq ?_
   refine E.seq ?_
   refine E.opv hF (r_move (hF.at 10 rfl)) rfl rfl rfl rfl fun a hF=>?_
   refine E.opv hF (r_bin (hF.at 0 rfl) ev_c eg_scalar (bi_int (ic_neq (c:=false) (by decide)) (by simp))) rfl rfl rfl rfl fun a hF=>?_
   refine E.opv hF (r_move (hF.at 0 rfl)) rfl rfl rfl rfl fun a hF=>?_
   refine E.opvg hF (r_move (hF.at 3 rfl)) (wanted_by rfl rfl (hF.at 0 rfl) rfl) rfl rfl rfl fun a hF=>?_
   refine E.opvg hF (r_bin (hF.at 0 rfl) ev_c eg_scalar (bi_int (ic_neq (c:=false) (by decide)) (by simp))) (wanted_by rfl rfl (hF.at 1 rfl) rfl) rfl rfl rfl fun a hF=>?_
   refine E.opv hF (r_pick_f (hF.at 2 rfl) (hF.at 0 rfl)) rfl rfl rfl rfl fun a hF=>?_
   refine E.nil ?_
   refine wp_cond_false (hF.at 0 rfl) ?_
   refine wp_skip ?_
   refine E.norm ?_
   refine wp_seq ?_
   refine wp_seq ?_
   refine E.seq ?_
   refine E.opv hF (r_field (hF.at 7 rfl) (fa_SOD_2 (p:=2) rfl)) rfl rfl rfl rfl fun a hF=>?_
   refine E.opv hF (r_load (hF.at 0 rfl) (ldb_int (v:= .int .i64 (ny+1-fsD (criF er pa pb pc pd) (ny+1)+1)) (st.bk 0 rfl) rfl)) rfl rfl rfl rfl fun a hF=>?_
   refine E.opv hF (r_field (hF.at 19 rfl) (fa_SOD_2 (p:=2) rfl)) rfl rfl rfl rfl fun a hF=>?_
   refine E.opv hF (r_load (hF.at 0 rfl) (ldb_int (v:= .int .i64 (ny-fsD (criF er pa pb pc pd) ny+1)) (st.bk 1 rfl) rfl)) rfl rfl rfl rfl fun a hF=>?_
   refine E.opv hF (r_bin (hF.at 0 rfl) ev_c eg_scalar (ia_add (by omega) (by omega))) rfl rfl rfl rfl fun a hF=>?_
   refine E.opv hF (r_bin (hF.at 3 rfl) (hF.at 0 rfl) eg_scalar (bi_int (ic_eql (c:=true) (dec_tt (by omega))) (by simp))) rfl rfl rfl rfl fun a hF=>?_
   refine E.nil ?_
   refine wp_cond_true (hF.at 0 rfl) ?_
   refine wp_seq ?_
   refine E.seq ?_
   refine E.opv hF (r_field (hF.at 13 rfl) (fa_SOD_0 (p:=0) rfl)) rfl rfl rfl rfl fun a hF=>?_
   refine E.opv hF (r_load (hF.at 0 rfl) (ldb_i64 (v:= .int .i64 (kaV (criQ er (ny+1) pa pb pc pd)/12-1955880000-3179)) (st.bk 0 rfl) rfl)) rfl rfl rfl rfl fun a hF=>?_
   refine E.opv hF (r_field (hF.at 25 rfl) (fa_SOD_0 (p:=0) rfl)) rfl rfl rfl rfl fun a hF=>?_
   refine E.opv hF (r_load (hF.at 0 rfl) (ldb_i64 (v:= .int .i64 (kaV (criQ er ny pa pb pc pd)/12-1955880000-3179)) (st.bk 1 rfl) rfl)) rfl rfl rfl rfl fun a hF=>?_
   refine E.opv hF (r_bin (hF.at 2 rfl) (hF.at 0 rfl) eg_scalar (bi_int (ic_eql (c:=true) (dec_tt (by omega))) (by simp))) rfl rfl rfl rfl fun a hF=>?_
   refine E.opv hF (r_move (hF.at 0 rfl)) rfl rfl rfl rfl fun a hF=>?_
   refine E.opvg hF (r_field (hF.at 19 rfl) (fa_SOD_1 (p:=1) rfl)) (wanted_by rfl rfl (hF.at 0 rfl) rfl) rfl rfl rfl fun a hF=>?_
   refine E.opvg hF (r_load (hF.at 0 rfl) (ldb_int (v:= .int .i64 (kaV (criQ er (ny+1) pa pb pc pd)%12+1)) (st.bk 0 rfl) rfl)) (wanted_by rfl rfl (hF.at 1 rfl) rfl) rfl rfl rfl fun a hF=>?_
   refine E.opvg hF (r_field (hF.at 31 rfl) (fa_SOD_1 (p:=1) rfl)) (wanted_by rfl rfl (hF.at 2 rfl) rfl) rfl rfl rfl fun a hF=>?_
   refine E.opvg hF (r_load (hF.at 0 rfl) (ldb_int (v:= .int .i64 (kaV (criQ er ny pa pb pc pd)%12+1)) (st.bk 1 rfl) rfl)) (wanted_by rfl rfl (hF.at 3 rfl) rfl) rfl rfl rfl fun a hF=>?_
   refine E.opvg hF (r_bin (hF.at 2 rfl) (hF.at 0 rfl) eg_scalar (bi_int (ic_eql (c:=true) (dec_tt (by omega))) (by simp))) (wanted_by rfl rfl (hF.at 4 rfl) rfl) rfl rfl rfl fun a hF=>?_
   refine E.opv hF (r_pick_t (hF.at 5 rfl) (hF.at 0 rfl)) rfl rfl rfl rfl fun a hF=>?_
   refine E.opv hF (r_move (hF.at 0 rfl)) rfl rfl rfl rfl fun a hF=>?_
   refine E.opvg hF (r_field (hF.at 26 rfl) (fa_SOD_2 (p:=2) rfl)) (wanted_by rfl rfl (hF.at 0 rfl) rfl) rfl rfl rfl fun a hF=>?_
   refine E.opvg hF (r_load (hF.at 0 rfl) (ldb_int (v:= .int .i64 (ny+1-fsD (criF er pa pb pc pd) (ny+1)+1)) (st.bk 0 rfl) rfl)) (wanted_by rfl rfl (hF.at 1 rfl) rfl) rfl rfl rfl fun a hF=>?_
   refine E.opvg hF (r_bin (hF.at 0 rfl) ev_c eg_scalar (bi_int (ic_leq (c:=true) (dec_tt (by omega))) (by simp))) (wanted_by rfl rfl (hF.at 2 rfl) rfl) rfl rfl rfl fun a hF=>?_
   refine E.opv hF (r_pick_t (hF.at 3 rfl) (hF.at 0 rfl)) rfl rfl rfl rfl fun a hF=>?_
   refine E.opset (L':=[(6,.bool true),(78,.bool true),(77,.bool true),(76,.int .i64 (ny+1-fsD (criF er pa pb pc pd) (ny+1)+1)),(75,.pointer (some ⟨g13,2,none⟩)),(74,.bool true),(73,.bool true),(72,.bool true),(71,.int .i64 (kaV (criQ er ny pa pb pc pd)%12+1)),(70,.pointer (some ⟨g11,1,none⟩)),(69,.int .i64 (kaV (criQ er (ny+1) pa pb pc pd)%12+1)),(68,.pointer (some ⟨g13,1,none⟩)),(67,.bool true),(66,.bool true),(65,.int .i64 (kaV (criQ er ny pa pb pc pd)/12-1955880000-3179)),(64,.pointer (some ⟨g11,0,none⟩)),(63,.int .i64 (kaV (criQ er (ny+1) pa pb pc pd)/12-1955880000-3179)),(62,.pointer (some ⟨g13,0,none⟩)),(61,.bool true),(60,.int .i64 ((ny-fsD (criF er pa pb pc pd) ny+1)+1)),(59,.int .i64 (ny-fsD (criF er pa pb pc pd) ny+1)),(58,.pointer (some ⟨g11,2,none⟩)),(57,.int .i64 (ny+1-fsD (criF er pa pb pc pd) (ny+1)+1)),(56,.pointer (some ⟨g13,2,none⟩)),(55,.bool false),(54,.bool false),(53,.int .i64 0),(52,.bool false),(51,.bool false),(50,.int .i64 0),(14,.int .i64 0),(13,.pointer (some ⟨g13,0,none⟩)),(49,.int .i64 0),(48,.agg #[.int .i64 (kaV (criQ er (ny+1) pa pb pc pd)/12-1955880000-3179),.int .i64 (kaV (criQ er (ny+1) pa pb pc pd)%12+1),.int .i64 (ny+1-fsD (criF er pa pb pc pd) (ny+1)+1)]),(42,.tuple #[.agg #[.int .i64 (kaV (criQ er (ny+1) pa pb pc pd)/12-1955880000-3179),.int .i64 (kaV (criQ er (ny+1) pa pb pc pd)%12+1),.int .i64 (ny+1-fsD (criF er pa pb pc pd) (ny+1)+1)],.int .i64 0]),(47,.tuple #[.agg #[.int .i64 (kaV (criQ er (ny+1) pa pb pc pd)/12-1955880000-3179),.int .i64 (kaV (criQ er (ny+1) pa pb pc pd)%12+1),.int .i64 (ny+1-fsD (criF er pa pb pc pd) (ny+1)+1)],.int .i64 0]),(46,.agg #[.int .i64 pa,.int .i64 pb,.int .i64 pc,.int .i64 pd]),(45,.int .i64 (ny+1)),(44,.int .i64 ny),(43,.int .i64 er),(12,.int .i64 0),(11,.pointer (some ⟨g11,0,none⟩)),(41,.int .i64 0),(40,.agg #[.int .i64 (kaV (criQ er ny pa pb pc pd)/12-1955880000-3179),.int .i64 (kaV (criQ er ny pa pb pc pd)%12+1),.int .i64 (ny-fsD (criF er pa pb pc pd) ny+1)]),(35,.tuple #[.agg #[.int .i64 (kaV (criQ er ny pa pb pc pd)/12-1955880000-3179),.int .i64 (kaV (criQ er ny pa pb pc pd)%12+1),.int .i64 (ny-fsD (criF er pa pb pc pd) ny+1)],.int .i64 0]),(39,.tuple #[.agg #[.int .i64 (kaV (criQ er ny pa pb pc pd)/12-1955880000-3179),.int .i64 (kaV (criQ er ny pa pb pc pd)%12+1),.int .i64 (ny-fsD (criF er pa pb pc pd) ny+1)],.int .i64 0]),(38,.agg #[.int .i64 pa,.int .i64 pb,.int .i64 pc,.int .i64 pd]),(37,.int .i64 ny),(36,.int .i64 er),(24,.bool false),(23,.int .i64 ny),(7,.int .i64 ny),(0,.int .i64 er),(8,.pointer (some ⟨g8,0,none⟩)),(22,.agg #[.int .i64 pa,.int .i64 pb,.int .i64 pc,.int .i64 pd]),(16,.bool false),(15,.bool true),(5,.pointer (some ⟨g5,0,none⟩)),(1,.int .i64 n),(2,.agg #[.int .i64 wa,.int .i64 wb,.int .i64 wc,.int .i64 wd])]) hF (r_assign (hF.at 0 rfl)) rfl rfl rfl rfl fun a hF=>?_
   refine E.nil ?_
   refine wp_ret ?_
   have bel:=st.bel
   refine bodyPost_ret (res_tmp Tryz.results6 (hF.at 0 rfl)) hF.dfr ?_
   exact⟨rfl,bel⟩
  ·have st:=St.start w
   refine E.enter (nt:=103) (L:=[(0,.int .i64 r),(1,.int .i64 n),(2,.agg #[.int .i64 wa,.int .i64 wb,.int .i64 wc,.int .i64 wd])]) Tryz.func6 rfl rfl rfl (args_cons (i:=0) rfl (args_cons (i:=1) rfl (args_cons (i:=2) rfl args_nil))) ?_
   intro a hF
   refine wp_seq ?_
   refine E.seq ?_
   refine S.box st hF (hF.at 2 rfl) rfl rfl fun g5 w1 a st hF=>?_
   refine E.opv hF (r_assign ev_c) rfl rfl rfl rfl fun a hF=>?_
   refine E.nil ?_
   refine wp_seq ?_
   refine wp_seq ?_
   refine E.seq ?_
   refine S.callx st hF (rgc k13 map0) (awake18_any _ (hT.below st.bel)) rfl rfl rfl rfl fun w2 a st hF=>?_
   refine E.opv hF (r_un (hF.at 0 rfl) (bn_not _ false rfl)) rfl rfl rfl rfl fun a hF=>?_
   refine E.nil ?_
   refine wp_cond_false (hF.at 0 rfl) ?_
   refine wp_skip ?_
   refine E.norm ?_
   refine wp_seq ?_
   have hv0:=hF.at 4 rfl
   replace hF:=Fr.pick (L':=[(16,.bool false),(15,.bool true),(6,.bool false),(5,.pointer (some ⟨g5,0,none⟩)),(1,.int .i64 n),(2,.agg #[.int .i64 wa,.int .i64 wb,.int .i64 wc,.int .i64 wd])]) hF [0,1,2,3,5,6] rfl
   refine E.rgap 9 7 0 mixed hF hv0 [17,18,19,20,21,22,8,0,7] [_,.ex (.int .i64 er),_,_,_,_,kb w2 [.int .i64 0,.int .i64 0,.int .i64 0,.int .i64 0],.ex (.int .i64 er),.ex (.int .i64 ny)] [6] ⟨fun _ _ ⟨g,e,_,o⟩=>⟨g,e,o.lt⟩,trivial⟩ (by decide+kernel) rfl rfl rfl rfl ⟨rm 0 rfl,(by intro a' w' hF' hb hd;have e17:=sHe hd 0 17 rfl rfl rfl rfl;exact dv0 (r_bin e17 ev_c eg_scalar (and_3 her)) rfl rfl rfl),rm 4 rfl,ck st k14 rfl fun _ s=>ex_ret (inD_at _ hny),rb st ty_WHR 3 0 rfl,ck st k15 rfl fun _ s=>ex_ret (where_at _ hpa hpb hpc hpd),rai ty_Plc rfl,(by intro a' w' hF' hb hd;have e18:=sHe hd 0 18 rfl rfl rfl rfl;exact dv0 (r_assign e18) rfl rfl rfl),(by intro a' w' hF' hb hd;have e20:=sHe hd 0 20 rfl rfl rfl rfl;exact dv0 (r_assign e20) rfl rfl rfl),trivial⟩ ?_
   intro a w3 hF bb hall hne
   have s0:=st
   replace st:=st.to bb
   replace hF:=rE hall hF 5 rfl rfl
   obtain⟨_,e8,g8,rfl,ge8,o8⟩:=sS hall 6 8 rfl rfl
   replace st:=st.push o8 (Nat.le_trans s0.bel.size ge8) (s0.ne ge8)
   clear o8
   replace hF:=hF.add e8
   replace hF:=rE hall hF 7 rfl rfl
   replace hF:=rE hall hF 8 rfl rfl
   clear hall bb hne s0 hv0
   refine S.stoI st hF 0 rfl (hF.at 2 rfl) (hF.at 3 rfl) ty_Plc rfl rfl rfl fun w4 a st hF=>?_
   refine E.nil ?_
   refine wp_seq ?_
   refine wp_seq ?_
   refine E.seq ?_
   refine E.opv hF (r_move (hF.at 0 rfl)) rfl rfl rfl rfl fun a hF=>?_
   refine E.opv hF (r_bin (hF.at 0 rfl) ev_c eg_scalar (bi_int (ic_eql (c:=false) (dec_ff (by omega))) (by simp))) rfl rfl rfl rfl fun a hF=>?_
   refine E.nil ?_
   refine wp_cond_false (hF.at 0 rfl) ?_
   refine wp_skip ?_
   refine E.norm ?_
   refine wp_seq ?_
   refine E.seq ?_
   refine E.opv hF (r_move (hF.at 3 rfl)) rfl rfl rfl rfl fun a hF=>?_
   refine E.opv hF (r_move (hF.at 3 rfl)) rfl rfl rfl rfl fun a hF=>?_
   refine E.opv hF (r_load (hF.at 6 rfl) (ld_all ty_Plc (st.bk 0 rfl) rfl)) rfl rfl rfl rfl fun a hF=>?_
   refine S.callx st hF (rgc k24 (map3 (hF.at 2 rfl) (hF.at 1 rfl) (hF.at 0 rfl))) (soOf_any er ny pa pb pc pd _ (hT.below st.bel) (by first|assumption|exact⟨by omega,by omega,by omega,by omega,by omega,by omega,by omega,by omega⟩) (by omega) (by omega) (by omega) (by omega)) rfl rfl rfl rfl fun w5 a st hF=>?_
   refine E.opv hF (r_move (hF.at 0 rfl)) rfl rfl rfl rfl fun a hF=>?_
   refine E.opv hF (r_extract (v:= .agg #[.int .i64 (kaV (criQ er ny pa pb pc pd)/12-1955880000-3179),.int .i64 (kaV (criQ er ny pa pb pc pd)%12+1),.int .i64 (ny-fsD (criF er pa pb pc pd) ny+1)]) (hF.at 0 rfl) rfl) rfl rfl rfl rfl fun a hF=>?_
   refine E.opv hF (r_extract (v:= .int .i64 0) (hF.at 1 rfl) rfl) rfl rfl rfl rfl fun a hF=>?_
   refine S.new st hF 1 rfl ty_SOD rfl rfl rfl rfl rfl fun g11 w6 a st hF=>?_
   refine E.opv hF (r_assign (hF.at 1 rfl)) rfl rfl rfl rfl fun a hF=>?_
   refine E.nil ?_
   refine wp_seq ?_
   refine E.seq ?_
   refine E.opv hF (r_move (hF.at 12 rfl)) rfl rfl rfl rfl fun a hF=>?_
   refine E.opv hF (r_move (hF.at 12 rfl)) rfl rfl rfl rfl fun a hF=>?_
   refine E.opv hF (r_bin (hF.at 0 rfl) ev_c eg_scalar (ia_add (by omega) (by omega))) rfl rfl rfl rfl fun a hF=>?_
   refine E.opv hF (r_load (hF.at 16 rfl) (ld_all ty_Plc (st.bk 1 rfl) rfl)) rfl rfl rfl rfl fun a hF=>?_
   refine S.callx st hF (rgc k24 (map3 (hF.at 3 rfl) (hF.at 1 rfl) (hF.at 0 rfl))) (soOf_any er (ny+1) pa pb pc pd _ (hT.below st.bel) (by first|assumption|exact⟨by omega,by omega,by omega,by omega,by omega,by omega,by omega,by omega⟩) (by omega) (by omega) (by omega) (by omega)) rfl rfl rfl rfl fun w7 a st hF=>?_
   refine E.opv hF (r_move (hF.at 0 rfl)) rfl rfl rfl rfl fun a hF=>?_
   refine E.opv hF (r_extract (v:= .agg #[.int .i64 (kaV (criQ er (ny+1) pa pb pc pd)/12-1955880000-3179),.int .i64 (kaV (criQ er (ny+1) pa pb pc pd)%12+1),.int .i64 (ny+1-fsD (criF er pa pb pc pd) (ny+1)+1)]) (hF.at 0 rfl) rfl) rfl rfl rfl rfl fun a hF=>?_
   refine E.opv hF (r_extract (v:= .int .i64 0) (hF.at 1 rfl) rfl) rfl rfl rfl rfl fun a hF=>?_
   refine S.new st hF 1 rfl ty_SOD rfl rfl rfl rfl rfl fun g13 w8 a st hF=>?_
   refine E.opv hF (r_assign (hF.at 1 rfl)) rfl rfl rfl rfl fun a hF=>?_
   refine E.nil ?_
   refine wp_seq ?_
   refine wp_seq ?_
   refine E.seq ?_
   refine E.opv hF (r_move (hF.at 10 rfl)) rfl rfl rfl rfl fun a hF=>?_
   refine E.opv hF (r_bin (hF.at 0 rfl) ev_c eg_scalar (bi_int (ic_neq (c:=false) (by decide)) (by simp))) rfl rfl rfl rfl fun a hF=>?_
   refine E.opv hF (r_move (hF.at 0 rfl)) rfl rfl rfl rfl fun a hF=>?_
   refine E.opvg hF (r_move (hF.at 3 rfl)) (wanted_by rfl rfl (hF.at 0 rfl) rfl) rfl rfl rfl fun a hF=>?_
   refine E.opvg hF (r_bin (hF.at 0 rfl) ev_c eg_scalar (bi_int (ic_neq (c:=false) (by decide)) (by simp))) (wanted_by rfl rfl (hF.at 1 rfl) rfl) rfl rfl rfl fun a hF=>?_
   refine E.opv hF (r_pick_f (hF.at 2 rfl) (hF.at 0 rfl)) rfl rfl rfl rfl fun a hF=>?_
   refine E.nil ?_
   refine wp_cond_false (hF.at 0 rfl) ?_
   refine wp_skip ?_
   refine E.norm ?_
   refine wp_seq ?_
   refine wp_seq ?_
   refine E.seq ?_
   refine E.opv hF (r_field (hF.at 7 rfl) (fa_SOD_2 (p:=2) rfl)) rfl rfl rfl rfl fun a hF=>?_
   refine E.opv hF (r_load (hF.at 0 rfl) (ldb_int (v:= .int .i64 (ny+1-fsD (criF er pa pb pc pd) (ny+1)+1)) (st.bk 0 rfl) rfl)) rfl rfl rfl rfl fun a hF=>?_
   refine E.opv hF (r_field (hF.at 19 rfl) (fa_SOD_2 (p:=2) rfl)) rfl rfl rfl rfl fun a hF=>?_
   refine E.opv hF (r_load (hF.at 0 rfl) (ldb_int (v:= .int .i64 (ny-fsD (criF er pa pb pc pd) ny+1)) (st.bk 1 rfl) rfl)) rfl rfl rfl rfl fun a hF=>?_
   refine E.opv hF (r_bin (hF.at 0 rfl) ev_c eg_scalar (ia_add (by omega) (by omega))) rfl rfl rfl rfl fun a hF=>?_
   refine E.opv hF (r_bin (hF.at 3 rfl) (hF.at 0 rfl) eg_scalar (bi_int (ic_eql (c:=false) (dec_ff (by omega))) (by simp))) rfl rfl rfl rfl fun a hF=>?_
   refine E.nil ?_
   refine wp_cond_false (hF.at 0 rfl) ?_
   refine wp_skip ?_
   refine E.norm ?_
   refine wp_seq ?_
   refine E.seq ?_
   refine E.opv hF (r_field (hF.at 13 rfl) (fa_SOD_2 (p:=2) rfl)) rfl rfl rfl rfl fun a hF=>?_
   refine E.opv hF (r_load (hF.at 0 rfl) (ldb_int (v:= .int .i64 (ny+1-fsD (criF er pa pb pc pd) (ny+1)+1)) (st.bk 0 rfl) rfl)) rfl rfl rfl rfl fun a hF=>?_
   refine E.opv hF (r_bin (hF.at 0 rfl) ev_c eg_scalar (bi_int (ic_eql (c:=true) (dec_tt (by omega))) (by simp))) rfl rfl rfl rfl fun a hF=>?_
   refine E.opv hF (r_move (hF.at 0 rfl)) rfl rfl rfl rfl fun a hF=>?_
   refine E.opvg hF (r_field (hF.at 27 rfl) (fa_SOD_2 (p:=2) rfl)) (wanted_by rfl rfl (hF.at 0 rfl) rfl) rfl rfl rfl fun a hF=>?_
   refine E.opvg hF (r_load (hF.at 0 rfl) (ldb_int (v:= .int .i64 (ny-fsD (criF er pa pb pc pd) ny+1)) (st.bk 1 rfl) rfl)) (wanted_by rfl rfl (hF.at 1 rfl) rfl) rfl rfl rfl fun a hF=>?_
   refine E.opvg hF (r_bin (hF.at 0 rfl) ev_c eg_scalar (bi_int (ic_geq (c:=true) (dec_tt (by omega))) (by simp))) (wanted_by rfl rfl (hF.at 2 rfl) rfl) rfl rfl rfl fun a hF=>?_
   refine E.opv hF (r_pick_t (hF.at 3 rfl) (hF.at 0 rfl)) rfl rfl rfl rfl fun a hF=>?_
   refine E.opv hF (r_move (hF.at 0 rfl)) rfl rfl rfl rfl fun a hF=>?_
   refine E.opvg hF (r_field (hF.at 22 rfl) (fa_SOD_0 (p:=0) rfl)) (wanted_by rfl rfl (hF.at 0 rfl) rfl) rfl rfl rfl fun a hF=>?_
   refine E.opvg hF (r_load (hF.at 0 rfl) (ldb_i64 (v:= .int .i64 (kaV (criQ er (ny+1) pa pb pc pd)/12-1955880000-3179)) (st.bk 0 rfl) rfl)) (wanted_by rfl rfl (hF.at 1 rfl) rfl) rfl rfl rfl fun a hF=>?_
   refine E.opvg hF (r_bin ev_c (hF.at 0 rfl) eg_scalar (ia_mul (by omega) (by omega))) (wanted_by rfl rfl (hF.at 2 rfl) rfl) rfl rfl rfl fun a hF=>?_
   refine E.opvg hF (r_field (hF.at 25 rfl) (fa_SOD_1 (p:=1) rfl)) (wanted_by rfl rfl (hF.at 3 rfl) rfl) rfl rfl rfl fun a hF=>?_
   refine E.opvg hF (r_load (hF.at 0 rfl) (ldb_int (v:= .int .i64 (kaV (criQ er (ny+1) pa pb pc pd)%12+1)) (st.bk 0 rfl) rfl)) (wanted_by rfl rfl (hF.at 4 rfl) rfl) rfl rfl rfl fun a hF=>?_
   refine E.opvg hF (r_bin (hF.at 2 rfl) (hF.at 0 rfl) eg_scalar (ia_add (by omega) (by omega))) (wanted_by rfl rfl (hF.at 5 rfl) rfl) rfl rfl rfl fun a hF=>?_
   refine E.opvg hF (r_field (hF.at 38 rfl) (fa_SOD_0 (p:=0) rfl)) (wanted_by rfl rfl (hF.at 6 rfl) rfl) rfl rfl rfl fun a hF=>?_
   refine E.opvg hF (r_load (hF.at 0 rfl) (ldb_i64 (v:= .int .i64 (kaV (criQ er ny pa pb pc pd)/12-1955880000-3179)) (st.bk 1 rfl) rfl)) (wanted_by rfl rfl (hF.at 7 rfl) rfl) rfl rfl rfl fun a hF=>?_
   refine E.opvg hF (r_bin ev_c (hF.at 0 rfl) eg_scalar (ia_mul (by omega) (by omega))) (wanted_by rfl rfl (hF.at 8 rfl) rfl) rfl rfl rfl fun a hF=>?_
   refine E.opvg hF (r_field (hF.at 41 rfl) (fa_SOD_1 (p:=1) rfl)) (wanted_by rfl rfl (hF.at 9 rfl) rfl) rfl rfl rfl fun a hF=>?_
   refine E.opvg hF (r_load (hF.at 0 rfl) (ldb_int (v:= .int .i64 (kaV (criQ er ny pa pb pc pd)%12+1)) (st.bk 1 rfl) rfl)) (wanted_by rfl rfl (hF.at 10 rfl) rfl) rfl rfl rfl fun a hF=>?_
   refine E.opvg hF (r_bin (hF.at 2 rfl) (hF.at 0 rfl) eg_scalar (ia_add (by omega) (by omega))) (wanted_by rfl rfl (hF.at 11 rfl) rfl) rfl rfl rfl fun a hF=>?_
   refine E.opvg hF (r_bin (hF.at 0 rfl) ev_c eg_scalar (ia_add (by omega) (by omega))) (wanted_by rfl rfl (hF.at 12 rfl) rfl) rfl rfl rfl fun a hF=>?_
   refine E.opvg hF (r_bin (hF.at 7 rfl) (hF.at 0 rfl) eg_scalar (bi_int (ic_eql (c:=true) (dec_tt (by omega))) (by simp))) (wanted_by rfl rfl (hF.at 13 rfl) rfl) rfl rfl rfl fun a hF=>?_
   refine E.opv hF (r_pick_t (hF.at 14 rfl) (hF.at 0 rfl)) rfl rfl rfl rfl fun a hF=>?_
   refine E.opset (L':=[(6,.bool true),(102,.bool true),(101,.bool true),(100,.int .i64 (((12*(kaV (criQ er ny pa pb pc pd)/12-1955880000-3179))+(kaV (criQ er ny pa pb pc pd)%12+1))+1)),(99,.int .i64 ((12*(kaV (criQ er ny pa pb pc pd)/12-1955880000-3179))+(kaV (criQ er ny pa pb pc pd)%12+1))),(98,.int .i64 (kaV (criQ er ny pa pb pc pd)%12+1)),(97,.pointer (some ⟨g11,1,none⟩)),(96,.int .i64 (12*(kaV (criQ er ny pa pb pc pd)/12-1955880000-3179))),(95,.int .i64 (kaV (criQ er ny pa pb pc pd)/12-1955880000-3179)),(94,.pointer (some ⟨g11,0,none⟩)),(93,.int .i64 ((12*(kaV (criQ er (ny+1) pa pb pc pd)/12-1955880000-3179))+(kaV (criQ er (ny+1) pa pb pc pd)%12+1))),(92,.int .i64 (kaV (criQ er (ny+1) pa pb pc pd)%12+1)),(91,.pointer (some ⟨g13,1,none⟩)),(90,.int .i64 (12*(kaV (criQ er (ny+1) pa pb pc pd)/12-1955880000-3179))),(89,.int .i64 (kaV (criQ er (ny+1) pa pb pc pd)/12-1955880000-3179)),(88,.pointer (some ⟨g13,0,none⟩)),(87,.bool true),(86,.bool true),(85,.bool true),(84,.int .i64 (ny-fsD (criF er pa pb pc pd) ny+1)),(83,.pointer (some ⟨g11,2,none⟩)),(82,.bool true),(81,.bool true),(80,.int .i64 (ny+1-fsD (criF er pa pb pc pd) (ny+1)+1)),(79,.pointer (some ⟨g13,2,none⟩)),(61,.bool false),(60,.int .i64 ((ny-fsD (criF er pa pb pc pd) ny+1)+1)),(59,.int .i64 (ny-fsD (criF er pa pb pc pd) ny+1)),(58,.pointer (some ⟨g11,2,none⟩)),(57,.int .i64 (ny+1-fsD (criF er pa pb pc pd) (ny+1)+1)),(56,.pointer (some ⟨g13,2,none⟩)),(55,.bool false),(54,.bool false),(53,.int .i64 0),(52,.bool false),(51,.bool false),(50,.int .i64 0),(14,.int .i64 0),(13,.pointer (some ⟨g13,0,none⟩)),(49,.int .i64 0),(48,.agg #[.int .i64 (kaV (criQ er (ny+1) pa pb pc pd)/12-1955880000-3179),.int .i64 (kaV (criQ er (ny+1) pa pb pc pd)%12+1),.int .i64 (ny+1-fsD (criF er pa pb pc pd) (ny+1)+1)]),(42,.tuple #[.agg #[.int .i64 (kaV (criQ er (ny+1) pa pb pc pd)/12-1955880000-3179),.int .i64 (kaV (criQ er (ny+1) pa pb pc pd)%12+1),.int .i64 (ny+1-fsD (criF er pa pb pc pd) (ny+1)+1)],.int .i64 0]),(47,.tuple #[.agg #[.int .i64 (kaV (criQ er (ny+1) pa pb pc pd)/12-1955880000-3179),.int .i64 (kaV (criQ er (ny+1) pa pb pc pd)%12+1),.int .i64 (ny+1-fsD (criF er pa pb pc pd) (ny+1)+1)],.int .i64 0]),(46,.agg #[.int .i64 pa,.int .i64 pb,.int .i64 pc,.int .i64 pd]),(45,.int .i64 (ny+1)),(44,.int .i64 ny),(43,.int .i64 er),(12,.int .i64 0),(11,.pointer (some ⟨g11,0,none⟩)),(41,.int .i64 0),(40,.agg #[.int .i64 (kaV (criQ er ny pa pb pc pd)/12-1955880000-3179),.int .i64 (kaV (criQ er ny pa pb pc pd)%12+1),.int .i64 (ny-fsD (criF er pa pb pc pd) ny+1)]),(35,.tuple #[.agg #[.int .i64 (kaV (criQ er ny pa pb pc pd)/12-1955880000-3179),.int .i64 (kaV (criQ er ny pa pb pc pd)%12+1),.int .i64 (ny-fsD (criF er pa pb pc pd) ny+1)],.int .i64 0]),(39,.tuple #[.agg #[.int .i64 (kaV (criQ er ny pa pb pc pd)/12-1955880000-3179),.int .i64 (kaV (criQ er ny pa pb pc pd)%12+1),.int .i64 (ny-fsD (criF er pa pb pc pd) ny+1)],.int .i64 0]),(38,.agg #[.int .i64 pa,.int .i64 pb,.int .i64 pc,.int .i64 pd]),(37,.int .i64 ny),(36,.int .i64 er),(24,.bool false),(23,.int .i64 ny),(7,.int .i64 ny),(0,.int .i64 er),(8,.pointer (some ⟨g8,0,none⟩)),(22,.agg #[.int .i64 pa,.int .i64 pb,.int .i64 pc,.int .i64 pd]),(16,.bool false),(15,.bool true),(5,.pointer (some ⟨g5,0,none⟩)),(1,.int .i64 n),(2,.agg #[.int .i64 wa,.int .i64 wb,.int .i64 wc,.int .i64 wd])]) hF (r_assign (hF.at 0 rfl)) rfl rfl rfl rfl fun a hF=>?_
   refine E.nil ?_
   refine wp_ret ?_
   have bel:=st.bel
   refine bodyPost_ret (res_tmp Tryz.results6 (hF.at 0 rfl)) hF.dfr ?_
   exact⟨rfl,bel⟩
theorem qc_lt18 {a b:Rat} (h:a<b):qc a b<0:=by rw[qc_def,if_pos h];decide
theorem rem_y {P:Program} {w:World} {t:TypeId} {y0 y:Int} (h:(if 0≤y0 then y0%8000 else -(-y0%8000))=y):(binOp .rem t (.int .i64 y0) (.int .i64 8000)).run P w= .ok (.int .i64 y) w:=by
 subst h
 exact id_rem (by decide)
theorem solarFirst_walk (r y0 m0 wa wb wc wd:Int) (w:World) (hT:TabD w):
 Calls Tryz.prog 7 #[.int .i64 r,.int .i64 y0,.int .i64 m0,.agg #[.int .i64 wa,.int .i64 wb,.int .i64 wc,.int .i64 wd]] w (ValPost w (.bool true)):=by
 obtain⟨pa,hpa⟩:∃z:Int,gA 60 120 wa wb=z:=⟨_,rfl⟩
 obtain⟨pb,hpb⟩:∃z:Int,gB wb=z:=⟨_,rfl⟩
 obtain⟨pc,hpc⟩:∃z:Int,gA 180 360 wc wd=z:=⟨_,rfl⟩
 obtain⟨pd,hpd⟩:∃z:Int,gB wd=z:=⟨_,rfl⟩
 have hok:PlOk pa pb pc pd:=by rw[←hpa,←hpb,←hpc,←hpd];exact good_ok wa wb wc wd
 obtain⟨er,her⟩:∃z:Int,r%4=z:=⟨_,rfl⟩
 have her0:0≤er∧er≤3:=by omega
 obtain⟨y,hy⟩:∃z:Int,(if 0≤y0 then y0%8000 else -(-y0%8000))=z:=⟨_,rfl⟩
 have hyb:=rem_bd (k:=y0) (n:=8000) (by decide)
 rw[hy] at hyb
 have hfb:=fo_bd (cf_ok er hok) (cf_near er hok) (y:=y) (m:=(1+(m0%256)%12)) (by omega) (by omega) (by omega) (by omega)
 have hks:=so_kas er hok y (1+(m0%256)%12)
 have st:=St.start w
 refine E.enter (nt:=65) (L:=[(0,.int .i64 r),(1,.int .i64 y0),(2,.int .i64 m0),(3,.agg #[.int .i64 wa,.int .i64 wb,.int .i64 wc,.int .i64 wd])]) Tryz.func7 rfl rfl rfl (args_cons (i:=0) rfl (args_cons (i:=1) rfl (args_cons (i:=2) rfl (args_cons (i:=3) rfl args_nil)))) ?_
 intro a hF
 refine wp_seq ?_
 refine E.seq ?_
 refine S.box st hF (hF.at 3 rfl) rfl rfl fun g7 w1 a st hF=>?_
 refine E.opv hF (r_assign ev_c) rfl rfl rfl rfl fun a hF=>?_
 refine E.nil ?_
 refine wp_seq ?_
 refine wp_seq ?_
 refine E.seq ?_
 refine S.callx st hF (rgc k13 map0) (awake18_any _ (hT.below st.bel)) rfl rfl rfl rfl fun w2 a st hF=>?_
 refine E.opv hF (r_un (hF.at 0 rfl) (bn_not _ false rfl)) rfl rfl rfl rfl fun a hF=>?_
 refine E.nil ?_
 refine wp_cond_false (hF.at 0 rfl) ?_
 refine wp_skip ?_
 refine E.norm ?_
 refine wp_seq ?_
 refine E.seq ?_
 refine E.opv hF (r_move (hF.at 4 rfl)) rfl rfl rfl rfl fun a hF=>?_
 refine E.opv hF (r_bin (hF.at 0 rfl) ev_c eg_scalar (and_3 her)) rfl rfl rfl rfl fun a hF=>?_
 refine E.opv hF (r_load (hF.at 5 rfl) (ld_all ty_WHR (st.bk 0 rfl) rfl)) rfl rfl rfl rfl fun a hF=>?_
 refine S.callx st hF (rgc k15 (map1 (hF.at 0 rfl))) (where_at _ hpa hpb hpc hpd) rfl rfl rfl rfl fun w3 a st hF=>?_
 refine S.alloc st hF ty_Plc rfl rfl fun g9 w4 a st hF=>?_
 refine E.opset (L':=[(0,.int .i64 er),(9,.pointer (some ⟨g9,0,none⟩)),(18,.agg #[.int .i64 pa,.int .i64 pb,.int .i64 pc,.int .i64 pd]),(17,.agg #[.int .i64 wa,.int .i64 wb,.int .i64 wc,.int .i64 wd]),(16,.int .i64 er),(15,.int .i64 r),(14,.bool false),(13,.bool true),(8,.bool false),(7,.pointer (some ⟨g7,0,none⟩)),(1,.int .i64 y0),(2,.int .i64 m0),(3,.agg #[.int .i64 wa,.int .i64 wb,.int .i64 wc,.int .i64 wd])]) hF (r_assign (hF.at 3 rfl)) rfl rfl rfl rfl fun a hF=>?_
 refine S.stoI st hF 0 rfl (hF.at 1 rfl) (hF.at 2 rfl) ty_Plc rfl rfl rfl fun w5 a st hF=>?_
 refine E.nil ?_
 refine wp_seq ?_
 refine E.seq ?_
 refine E.opv hF (r_move (hF.at 10 rfl)) rfl rfl rfl rfl fun a hF=>?_
 refine E.opv hF (r_bin (hF.at 0 rfl) ev_c eg_scalar (rem_y hy)) rfl rfl rfl rfl fun a hF=>?_
 refine E.opv hF (r_move (hF.at 13 rfl)) rfl rfl rfl rfl fun a hF=>?_
 refine E.opv hF (r_bin (hF.at 0 rfl) ev_c eg_scalar (id_and (n:=8) (by decide) (d:=256) (by decide) (by decide))) rfl rfl rfl rfl fun a hF=>?_
 refine E.opv hF (r_bin (hF.at 0 rfl) ev_c eg_scalar (id_remn (a:=m0%256) (b:=12) (by omega) (by omega))) rfl rfl rfl rfl fun a hF=>?_
 refine E.opv hF (r_bin ev_c (hF.at 0 rfl) eg_scalar (ia_add (by omega) (by omega))) rfl rfl rfl rfl fun a hF=>?_
 refine E.opset (L':=[(1,.int .i64 y),(24,.int .i64 (1+((m0%256)%12))),(23,.int .i64 ((m0%256)%12)),(22,.int .i64 (m0%256)),(21,.int .i64 m0),(20,.int .i64 y),(19,.int .i64 y0),(0,.int .i64 er),(9,.pointer (some ⟨g9,0,none⟩)),(18,.agg #[.int .i64 pa,.int .i64 pb,.int .i64 pc,.int .i64 pd]),(17,.agg #[.int .i64 wa,.int .i64 wb,.int .i64 wc,.int .i64 wd]),(16,.int .i64 er),(15,.int .i64 r),(14,.bool false),(13,.bool true),(8,.bool false),(7,.pointer (some ⟨g7,0,none⟩)),(2,.int .i64 m0),(3,.agg #[.int .i64 wa,.int .i64 wb,.int .i64 wc,.int .i64 wd])]) hF (r_assign (hF.at 4 rfl)) rfl rfl rfl rfl fun a hF=>?_
 refine E.opset (L':=[(2,.int .i64 (1+((m0%256)%12))),(1,.int .i64 y),(24,.int .i64 (1+((m0%256)%12))),(23,.int .i64 ((m0%256)%12)),(22,.int .i64 (m0%256)),(21,.int .i64 m0),(20,.int .i64 y),(19,.int .i64 y0),(0,.int .i64 er),(9,.pointer (some ⟨g9,0,none⟩)),(18,.agg #[.int .i64 pa,.int .i64 pb,.int .i64 pc,.int .i64 pd]),(17,.agg #[.int .i64 wa,.int .i64 wb,.int .i64 wc,.int .i64 wd]),(16,.int .i64 er),(15,.int .i64 r),(14,.bool false),(13,.bool true),(8,.bool false),(7,.pointer (some ⟨g7,0,none⟩)),(3,.agg #[.int .i64 wa,.int .i64 wb,.int .i64 wc,.int .i64 wd])]) hF (r_assign (hF.at 1 rfl)) rfl rfl rfl rfl fun a hF=>?_
 refine E.nil ?_
 refine wp_seq ?_
 refine E.seq ?_
 refine E.opv hF (r_move (hF.at 8 rfl)) rfl rfl rfl rfl fun a hF=>?_
 refine E.opv hF (r_move (hF.at 2 rfl)) rfl rfl rfl rfl fun a hF=>?_
 refine E.opv hF (r_move (hF.at 2 rfl)) rfl rfl rfl rfl fun a hF=>?_
 refine E.opv hF (r_load (hF.at 12 rfl) (ld_all ty_Plc (st.bk 0 rfl) rfl)) rfl rfl rfl rfl fun a hF=>?_
 refine S.callx st hF (rgc k29 (map4 (hF.at 3 rfl) (hF.at 2 rfl) (hF.at 1 rfl) (hF.at 0 rfl))) (soFirst_any er y (1+((m0%256)%12)) pa pb pc pd _ (hT.below st.bel) (by first|assumption|exact⟨by omega,by omega,by omega,by omega,by omega,by omega,by omega,by omega⟩) (by omega) (by omega) (by omega) (by omega) (by omega) (by omega)) rfl rfl rfl rfl fun w6 a st hF=>?_
 refine E.opv hF (r_assign (hF.at 0 rfl)) rfl rfl rfl rfl fun a hF=>?_
 refine E.nil ?_
 refine wp_seq ?_
 refine E.rga 11 mixed hF [30,31,32,33,34,35,36,37,38,11,12] [_,_,.ex (.int .i64 ((foD (criF er pa pb pc pd) y (1+((m0%256)%12)))-1)),_,_,_,_,_,_,kn w6 [.bool false,.slice none 0 0,.slice none 0 0],kn w6 [.bool false,.slice none 0 0,.slice none 0 0]] [9,10] ⟨fun _ _ ⟨g,e,_,o⟩=>⟨g,e,o.lt⟩,⟨fun _ _ ⟨g,e,_,o⟩=>⟨g,e,o.lt⟩,trivial⟩⟩ (by decide+kernel) rfl rfl rfl ⟨rm 14 rfl,rm 0 rfl,(by intro a' w' hF' hb hd;have e31:=sHe hd 0 31 rfl rfl rfl rfl;exact dv0 (r_bin e31 ev_c eg_scalar (ia_sub (by omega) (by omega))) rfl rfl rfl),rb st ty_Plc 15 0 rfl,ck st k16 rfl fun _ s=>rq_ret (soCrit_any er ((foD (criF er pa pb pc pd) y (1+((m0%256)%12)))-1) pa pb pc pd _ (hT.below s.bel) (by first|assumption|exact⟨by omega,by omega,by omega,by omega,by omega,by omega,by omega,by omega⟩) (by omega) (by omega)) (criQ_lim (by first|assumption|exact⟨by omega,by omega,by omega,by omega,by omega,by omega,by omega,by omega⟩) (by omega) (by omega)),rm 14 rfl,rm 0 rfl,rb st ty_Plc 15 0 rfl,ck st k16 rfl fun _ s=>rq_ret (soCrit_any er (foD (criF er pa pb pc pd) y (1+((m0%256)%12))) pa pb pc pd _ (hT.below s.bel) (by first|assumption|exact⟨by omega,by omega,by omega,by omega,by omega,by omega,by omega,by omega⟩) (by omega) (by omega)) (criQ_lim (by first|assumption|exact⟨by omega,by omega,by omega,by omega,by omega,by omega,by omega,by omega⟩) (by omega) (by omega)),ra ty_Rat rfl rfl,ra ty_Rat rfl rfl,trivial⟩ ?_
 intro a w7 hF bb hall hne
 have s0:=st
 replace st:=st.to bb
 obtain⟨vv8,hF,st⟩:=rS hall hF st 4 rfl rfl Rl.cl
 obtain⟨b10,ad10,n10,c10,ae10,m10,d10,rfl⟩:=Rq.form (st.f 0 rfl).1
 obtain⟨vv11,hF,st⟩:=rS hall hF st 8 rfl rfl Rl.cl
 obtain⟨b13,ad13,n13,c13,ae13,m13,d13,rfl⟩:=Rq.form (st.f 0 rfl).1
 obtain⟨_,e11,g11,rfl,ge11,o11⟩:=sS hall 9 11 rfl rfl
 replace st:=st.push o11.blk (Nat.le_trans s0.bel.size ge11) (s0.ne ge11)
 clear o11
 replace hF:=hF.add e11
 obtain⟨_,e12,g12,rfl,ge12,o12⟩:=sS hall 10 12 rfl rfl
 replace st:=st.push o12.blk (Nat.le_trans s0.bel.size ge12) (ne_cons (fun(e:g11=g12)=>hne 9 10 11 12 rfl rfl (by decide) rfl rfl (by rw[e11,e12,e])) (s0.ne ge12))
 clear o12
 replace hF:=hF.add e12
 clear hall bb hne s0
 refine S.sto st hF 1 rfl (hF.at 1 rfl) (hF.at 3 rfl) ty_Rat rfl rfl rfl rfl fun w14 a st hF=>?_
 refine S.sto st hF 0 rfl (hF.at 0 rfl) (hF.at 2 rfl) ty_Rat rfl rfl rfl rfl fun w15 a st hF=>?_
 refine E.nil ?_
 refine wp_seq ?_
 refine E.seq ?_
 refine E.opv hF (r_load (hF.at 1 rfl) (ld_all ty_Rat (st.bk 1 rfl) rfl)) rfl rfl rfl rfl fun a hF=>?_
 refine E.opv hF (r_load (hF.at 1 rfl) (ld_all ty_Rat (st.bk 0 rfl) rfl)) rfl rfl rfl rfl fun a hF=>?_
 refine S.callx st hF (rgc k30 (map2 (hF.at 1 rfl) (hF.at 0 rfl))) (rCmp_any _ _ _ _ 3 _ (st.f 1 rfl).1 (st.f 0 rfl).1 ((st.f 1 rfl).2.up _ (by omega)) ((st.f 0 rfl).2.up _ (by omega)) (by omega)) rfl rfl rfl rfl fun w16 a st hF=>?_
 refine E.opv hF (r_bin (hF.at 0 rfl) ev_c eg_scalar (bi_int (ic_lss (c:=true) (dec_tt (qc_lt18 (cr_lt _ hok _)))) (by simp))) rfl rfl rfl rfl fun a hF=>?_
 refine E.opv hF (r_move (hF.at 0 rfl)) rfl rfl rfl rfl fun a hF=>?_
 refine E.opvg hF (r_load (hF.at 6 rfl) (ld_all ty_Rat (st.bk 1 rfl) rfl)) (wanted_by rfl rfl (hF.at 0 rfl) rfl) rfl rfl rfl fun a hF=>?_
 refine S.callxg st hF (wanted_by rfl rfl (hF.at 1 rfl) rfl) (rgc k31 (map1 (hF.at 0 rfl))) (soSign12_any _ _ 3 _ (hT.below st.bel) (st.f 1 rfl).1 (st.f 1 rfl).2 (by omega)) rfl rfl rfl fun w17 a st hF=>?_
 refine E.opvg hF (r_move (hF.at 17 rfl)) (wanted_by rfl rfl (hF.at 2 rfl) rfl) rfl rfl rfl fun a hF=>?_
 refine E.opvg hF (r_bin (hF.at 0 rfl) ev_c eg_scalar (ia_add (by omega) (by omega))) (wanted_by rfl rfl (hF.at 3 rfl) rfl) rfl rfl rfl fun a hF=>?_
 refine E.opvg hF (r_bin (hF.at 0 rfl) ev_c eg_scalar (id_remn (a:=(1+((m0%256)%12))+10) (b:=12) (by omega) (by omega))) (wanted_by rfl rfl (hF.at 4 rfl) rfl) rfl rfl rfl fun a hF=>?_
 refine E.opvg hF (r_bin (hF.at 3 rfl) (hF.at 0 rfl) eg_scalar (bi_int (ic_eql (c:=true) (dec_tt (by omega))) (by simp))) (wanted_by rfl rfl (hF.at 5 rfl) rfl) rfl rfl rfl fun a hF=>?_
 refine E.opv hF (r_pick_t (hF.at 6 rfl) (hF.at 0 rfl)) rfl rfl rfl rfl fun a hF=>?_
 refine E.opv hF (r_move (hF.at 0 rfl)) rfl rfl rfl rfl fun a hF=>?_
 refine E.opvg hF (r_load (hF.at 13 rfl) (ld_all ty_Rat (st.bk 0 rfl) rfl)) (wanted_by rfl rfl (hF.at 0 rfl) rfl) rfl rfl rfl fun a hF=>?_
 refine S.callxg st hF (wanted_by rfl rfl (hF.at 1 rfl) rfl) (rgc k31 (map1 (hF.at 0 rfl))) (soSign12_any _ _ 3 _ (hT.below st.bel) (st.f 0 rfl).1 (st.f 0 rfl).2 (by omega)) rfl rfl rfl fun w18 a st hF=>?_
 refine E.opvg hF (r_move (hF.at 25 rfl)) (wanted_by rfl rfl (hF.at 2 rfl) rfl) rfl rfl rfl fun a hF=>?_
 refine E.opvg hF (r_bin (hF.at 0 rfl) ev_c eg_scalar (ia_sub (by omega) (by omega))) (wanted_by rfl rfl (hF.at 3 rfl) rfl) rfl rfl rfl fun a hF=>?_
 refine E.opvg hF (r_bin (hF.at 2 rfl) (hF.at 0 rfl) eg_scalar (bi_int (ic_eql (c:=true) (dec_tt (by omega))) (by simp))) (wanted_by rfl rfl (hF.at 4 rfl) rfl) rfl rfl rfl fun a hF=>?_
 refine E.opv hF (r_pick_t (hF.at 5 rfl) (hF.at 0 rfl)) rfl rfl rfl rfl fun a hF=>?_
 refine E.opv hF (r_move (hF.at 0 rfl)) rfl rfl rfl rfl fun a hF=>?_
 refine E.opvg hF (r_load (hF.at 20 rfl) (ld_all ty_Rat (st.bk 0 rfl) rfl)) (wanted_by rfl rfl (hF.at 0 rfl) rfl) rfl rfl rfl fun a hF=>?_
 refine S.callxg st hF (wanted_by rfl rfl (hF.at 1 rfl) rfl) (rgc k20 (map1 (hF.at 0 rfl))) (soCount_any _ _ 3 _ (hT.below st.bel) (st.f 0 rfl).1 (st.f 0 rfl).2 (by omega) (by omega) (by omega)) rfl rfl rfl fun w19 a st hF=>?_
 refine E.opvg hF (r_bin (hF.at 0 rfl) ev_c eg_scalar (ia_sub (by omega) (by omega))) (wanted_by rfl rfl (hF.at 2 rfl) rfl) rfl rfl rfl fun a hF=>?_
 refine E.opvg hF (r_move (hF.at 34 rfl)) (wanted_by rfl rfl (hF.at 3 rfl) rfl) rfl rfl rfl fun a hF=>?_
 refine E.opvg hF (r_bin (hF.at 1 rfl) (hF.at 0 rfl) eg_scalar (bi_int (ic_eql (c:=true) (dec_tt (by omega))) (by simp))) (wanted_by rfl rfl (hF.at 4 rfl) rfl) rfl rfl rfl fun a hF=>?_
 refine E.opv hF (r_pick_t (hF.at 5 rfl) (hF.at 0 rfl)) rfl rfl rfl rfl fun a hF=>?_
 refine E.opset (L':=[(8,.bool true),(64,.bool true),(63,.bool true),(62,.int .i64 y),(61,.int .i64 ((kaV (criQ er (foD (criF er pa pb pc pd) y (1+((m0%256)%12))) pa pb pc pd)/12-1955880000)-3179)),(60,.int .i64 (kaV (criQ er (foD (criF er pa pb pc pd) y (1+((m0%256)%12))) pa pb pc pd)/12-1955880000)),(59,.agg #[.bool b13,.slice ad13 n13 c13,.slice ae13 m13 d13]),(58,.bool true),(57,.bool true),(56,.bool true),(55,.int .i64 ((1+((m0%256)%12))-1)),(54,.int .i64 (1+((m0%256)%12))),(53,.int .i64 (kaV (criQ er (foD (criF er pa pb pc pd) y (1+((m0%256)%12))) pa pb pc pd)%12)),(52,.agg #[.bool b13,.slice ad13 n13 c13,.slice ae13 m13 d13]),(51,.bool true),(50,.bool true),(49,.bool true),(48,.int .i64 (((1+((m0%256)%12))+10)%12)),(47,.int .i64 ((1+((m0%256)%12))+10)),(46,.int .i64 (1+((m0%256)%12))),(45,.int .i64 (kaV (criQ er ((foD (criF er pa pb pc pd) y (1+((m0%256)%12)))-1) pa pb pc pd)%12)),(44,.agg #[.bool b10,.slice ad10 n10 c10,.slice ae10 m10 d10]),(43,.bool true),(42,.bool true),(41,.int .i64 (qc (criQ er ((foD (criF er pa pb pc pd) y (1+((m0%256)%12)))-1) pa pb pc pd) (criQ er (foD (criF er pa pb pc pd) y (1+((m0%256)%12))) pa pb pc pd))),(40,.agg #[.bool b13,.slice ad13 n13 c13,.slice ae13 m13 d13]),(39,.agg #[.bool b10,.slice ad10 n10 c10,.slice ae10 m10 d10]),(12,.pointer (some ⟨g12,0,none⟩)),(11,.pointer (some ⟨g11,0,none⟩)),(38,.agg #[.bool b13,.slice ad13 n13 c13,.slice ae13 m13 d13]),(34,.agg #[.bool b10,.slice ad10 n10 c10,.slice ae10 m10 d10]),(10,.int .i64 (foD (criF er pa pb pc pd) y (1+((m0%256)%12)))),(29,.int .i64 (foD (criF er pa pb pc pd) y (1+((m0%256)%12)))),(28,.agg #[.int .i64 pa,.int .i64 pb,.int .i64 pc,.int .i64 pd]),(27,.int .i64 (1+((m0%256)%12))),(26,.int .i64 y),(25,.int .i64 er),(2,.int .i64 (1+((m0%256)%12))),(1,.int .i64 y),(24,.int .i64 (1+((m0%256)%12))),(23,.int .i64 ((m0%256)%12)),(22,.int .i64 (m0%256)),(21,.int .i64 m0),(20,.int .i64 y),(19,.int .i64 y0),(0,.int .i64 er),(9,.pointer (some ⟨g9,0,none⟩)),(18,.agg #[.int .i64 pa,.int .i64 pb,.int .i64 pc,.int .i64 pd]),(17,.agg #[.int .i64 wa,.int .i64 wb,.int .i64 wc,.int .i64 wd]),(16,.int .i64 er),(15,.int .i64 r),(14,.bool false),(13,.bool true),(7,.pointer (some ⟨g7,0,none⟩)),(3,.agg #[.int .i64 wa,.int .i64 wb,.int .i64 wc,.int .i64 wd])]) hF (r_assign (hF.at 0 rfl)) rfl rfl rfl rfl fun a hF=>?_
 refine E.nil ?_
 refine wp_ret ?_
 have bel:=st.bel
 refine bodyPost_ret (res_tmp Tryz.results7 (hF.at 0 rfl)) hF.dfr ?_
 exact⟨rfl,bel⟩
theorem rem_p {P:Program} {w:World} {t:TypeId} {y0 y:Int} (h:(if 0≤y0 then y0%1099511627776 else -(-y0%1099511627776))=y):(binOp .rem t (.int .i64 y0) (.int .i64 1099511627776)).run P w= .ok (.int .i64 y) w:=by
 subst h
 exact id_rem (by decide)
theorem solarBad_walk (r n xa xb xc xd:Int) (w:World) (hT:TabD w):
 Calls Tryz.prog 8 #[.int .i64 r,.int .i64 n,.agg #[.int .i64 xa,.int .i64 xb,.int .i64 xc,.int .i64 xd]] w (ValPost w (.bool true)):=by
 obtain⟨pa,ha⟩:∃z:Int,(if 0≤xa then xa%1099511627776 else -(-xa%1099511627776))=z:=⟨_,rfl⟩
 obtain⟨pc,hc⟩:∃z:Int,(if 0≤xc then xc%1099511627776 else -(-xc%1099511627776))=z:=⟨_,rfl⟩
 have hab:=rem_bd (k:=xa) (n:=1099511627776) (by decide)
 rw[ha] at hab
 have hcb:=rem_bd (k:=xc) (n:=1099511627776) (by decide)
 rw[hc] at hcb
 by_cases hr:0≤r∧r≤3
 ·by_cases hp:plE pa xb pc xd=0
  ·have hok:=pl_of hp
   have hck:ckE r pa xb pc xd=0:=ckE_ok hr.1 hr.2 hok
   by_cases hd: -3000000≤n∧n≤3000000
   ·have hk3:=cr_in3 r (n:=n) hok (by omega) (by omega)
    have hfs:=fs_spec (cf_ok r hok) n
    have st:=St.start w
    refine E.enter (nt:=88) (L:=[(0,.int .i64 r),(1,.int .i64 n),(2,.agg #[.int .i64 xa,.int .i64 xb,.int .i64 xc,.int .i64 xd])]) Tryz.func8 rfl rfl rfl (args_cons (i:=0) rfl (args_cons (i:=1) rfl (args_cons (i:=2) rfl args_nil))) ?_
    intro a hF
    refine wp_seq ?_
    refine E.seq ?_
    refine S.box st hF (hF.at 2 rfl) rfl rfl fun g5 w1 a st hF=>?_
    refine E.opv hF (r_assign ev_c) rfl rfl rfl rfl fun a hF=>?_
    refine E.nil ?_
    refine wp_seq ?_
    refine wp_seq ?_
    refine E.seq ?_
    refine S.callx st hF (rgc k13 map0) (awake18_any _ (hT.below st.bel)) rfl rfl rfl rfl fun w2 a st hF=>?_
    refine E.opv hF (r_un (hF.at 0 rfl) (bn_not _ false rfl)) rfl rfl rfl rfl fun a hF=>?_
    refine E.nil ?_
    refine wp_cond_false (hF.at 0 rfl) ?_
    refine wp_skip ?_
    refine E.norm ?_
    refine wp_seq ?_
    refine E.seq ?_
    refine E.opv hF (r_field (hF.at 3 rfl) (fa_Plc_0 (p:=0) rfl)) rfl rfl rfl rfl fun a hF=>?_
    refine E.opv hF (r_load (hF.at 0 rfl) (ldb_i64 (v:= .int .i64 xa) (st.bk 0 rfl) rfl)) rfl rfl rfl rfl fun a hF=>?_
    refine E.opv hF (r_bin (hF.at 0 rfl) ev_c eg_scalar (rem_p ha)) rfl rfl rfl rfl fun a hF=>?_
    refine E.opv hF (r_field (hF.at 6 rfl) (fa_Plc_2 (p:=2) rfl)) rfl rfl rfl rfl fun a hF=>?_
    refine E.opv hF (r_load (hF.at 0 rfl) (ldb_i64 (v:= .int .i64 xc) (st.bk 0 rfl) rfl)) rfl rfl rfl rfl fun a hF=>?_
    refine E.opv hF (r_bin (hF.at 0 rfl) ev_c eg_scalar (rem_p hc)) rfl rfl rfl rfl fun a hF=>?_
    refine E.opv hF (r_field (hF.at 9 rfl) (fa_Plc_0 (p:=0) rfl)) rfl rfl rfl rfl fun a hF=>?_
    refine S.stooI (o:=0) (vs:=[.int .i64 pa]) (ws:=[.int .i64 pa,.int .i64 xb,.int .i64 xc,.int .i64 xd]) st hF 0 rfl (hF.at 0 rfl) (hF.at 4 rfl) rfl sz_i64 rfl rfl rfl rfl fun w3 a st hF=>?_
    refine E.opv hF (r_field (hF.at 10 rfl) (fa_Plc_2 (p:=2) rfl)) rfl rfl rfl rfl fun a hF=>?_
    refine S.stooI (o:=2) (vs:=[.int .i64 pc]) (ws:=[.int .i64 pa,.int .i64 xb,.int .i64 pc,.int .i64 xd]) st hF 0 rfl (hF.at 0 rfl) (hF.at 2 rfl) rfl sz_i64 rfl rfl rfl rfl fun w4 a st hF=>?_
    refine E.nil ?_
    refine wp_seq ?_
    refine E.seq ?_
    refine E.opv hF (r_move (hF.at 12 rfl)) rfl rfl rfl rfl fun a hF=>?_
    refine E.opv hF (r_move (hF.at 14 rfl)) rfl rfl rfl rfl fun a hF=>?_
    refine E.opv hF (r_load (hF.at 13 rfl) (ld_all ty_Plc (st.bk 0 rfl) rfl)) rfl rfl rfl rfl fun a hF=>?_
    refine S.callx st hF (rgc k24 (map3 (hF.at 2 rfl) (hF.at 1 rfl) (hF.at 0 rfl))) (soOf_any r n pa xb pc xd _ (hT.below st.bel) (by first|assumption|exact⟨by omega,by omega,by omega,by omega,by omega,by omega,by omega,by omega⟩) (by omega) (by omega) (by omega) (by omega)) rfl rfl rfl rfl fun w5 a st hF=>?_
    refine E.opv hF (r_move (hF.at 0 rfl)) rfl rfl rfl rfl fun a hF=>?_
    refine E.opv hF (r_extract (v:= .agg #[.int .i64 (kaV (criQ r n pa xb pc xd)/12-1955880000-3179),.int .i64 (kaV (criQ r n pa xb pc xd)%12+1),.int .i64 (n-fsD (criF r pa xb pc xd) n+1)]) (hF.at 0 rfl) rfl) rfl rfl rfl rfl fun a hF=>?_
    refine E.opv hF (r_extract (v:= .int .i64 0) (hF.at 1 rfl) rfl) rfl rfl rfl rfl fun a hF=>?_
    refine S.new st hF 1 rfl ty_SOD rfl rfl rfl rfl rfl fun g7 w6 a st hF=>?_
    refine E.opv hF (r_assign (hF.at 1 rfl)) rfl rfl rfl rfl fun a hF=>?_
    refine E.nil ?_
    refine wp_seq ?_
    refine E.seq ?_
    refine E.opv hF (r_move (hF.at 21 rfl)) rfl rfl rfl rfl fun a hF=>?_
    refine E.opv hF (r_build (pair2 ev_c ev_c) (bd_SOD_12 _ _ _)) rfl rfl rfl rfl fun a hF=>?_
    refine E.opv hF (r_load (hF.at 22 rfl) (ld_all ty_Plc (st.bk 1 rfl) rfl)) rfl rfl rfl rfl fun a hF=>?_
    refine S.callx st hF (rgc k25 (map3 (hF.at 2 rfl) (hF.at 1 rfl) (hF.at 0 rfl))) (soFixT_any r 0 1 1 pa xb pc xd (soN (criF r pa xb pc xd) 0 1 1) 0 _ (hT.below st.bel) (by first|assumption|exact⟨by omega,by omega,by omega,by omega,by omega,by omega,by omega,by omega⟩) (by omega) (by omega) (by omega) (by omega) (by omega) (by omega) (by omega) (by omega) rfl (so_first0 r hok)) rfl rfl rfl rfl fun w7 a st hF=>?_
    refine E.opv hF (r_move (hF.at 0 rfl)) rfl rfl rfl rfl fun a hF=>?_
    refine E.opv hF (r_extract (v:= .int .i64 (soN (criF r pa xb pc xd) 0 1 1)) (hF.at 0 rfl) rfl) rfl rfl rfl rfl fun a hF=>?_
    refine E.opv hF (r_extract (v:= .int .i64 0) (hF.at 1 rfl) rfl) rfl rfl rfl rfl fun a hF=>?_
    refine E.opv hF (r_assign (hF.at 1 rfl)) rfl rfl rfl rfl fun a hF=>?_
    refine E.opv hF (r_assign (hF.at 1 rfl)) rfl rfl rfl rfl fun a hF=>?_
    refine E.nil ?_
    refine wp_seq ?_
    refine wp_block ?_
    refine wp_seq ?_
    refine E.seq ?_
    refine E.opv hF (r_move (hF.at 30 rfl)) rfl rfl rfl rfl fun a hF=>?_
    refine E.opv hF (r_bin (hF.at 0 rfl) ev_c eg_scalar (bi_int (ic_lss (c:=false) (dec_ff (by omega))) (by simp))) rfl rfl rfl rfl fun a hF=>?_
    refine E.opv hF (r_move (hF.at 0 rfl)) rfl rfl rfl rfl fun a hF=>?_
    refine E.opvg hF (r_move (hF.at 33 rfl)) (wanted_by rfl rfl (hF.at 0 rfl) rfl) rfl rfl rfl fun a hF=>?_
    refine E.opvg hF (r_bin (hF.at 0 rfl) ev_c eg_scalar (bi_int (ic_gtr (c:=false) (dec_ff (by omega))) (by simp))) (wanted_by rfl rfl (hF.at 1 rfl) rfl) rfl rfl rfl fun a hF=>?_
    refine E.opv hF (r_pick_f (hF.at 2 rfl) (hF.at 0 rfl)) rfl rfl rfl rfl fun a hF=>?_
    refine E.opv hF (r_assign (hF.at 0 rfl)) rfl rfl rfl rfl fun a hF=>?_
    refine E.nil ?_
    refine wp_cond_false (hF.at 0 rfl) ?_
    refine wp_seq ?_
    refine E.seq ?_
    refine E.opv hF (r_load (hF.at 36 rfl) (ld_all ty_Plc (st.bk 1 rfl) rfl)) rfl rfl rfl rfl fun a hF=>?_
    refine S.callx st hF (rgc k32 (map1 (hF.at 0 rfl))) (pCheck_any pa xb pc xd _) rfl rfl rfl rfl fun w8 a st hF=>?_
    refine E.opv hF (r_bin (hF.at 0 rfl) ev_c eg_scalar (bi_int (ic_neq (c:=false) (dec_ff (by omega))) (by simp))) rfl rfl rfl rfl fun a hF=>?_
    refine E.opv hF (r_assign (hF.at 0 rfl)) rfl rfl rfl rfl fun a hF=>?_
    refine E.nil ?_
    refine wp_cond_false (hF.at 0 rfl) ?_
    refine wp_seq ?_
    refine E.seq ?_
    refine E.opv hF (r_move (hF.at 42 rfl)) rfl rfl rfl rfl fun a hF=>?_
    refine E.opv hF (r_bin (hF.at 0 rfl) ev_c eg_scalar (bi_int (ic_lss (c:=false) (dec_ff (by omega))) (by simp))) rfl rfl rfl rfl fun a hF=>?_
    refine E.opv hF (r_move (hF.at 0 rfl)) rfl rfl rfl rfl fun a hF=>?_
    refine E.opvg hF (r_move (hF.at 45 rfl)) (wanted_by rfl rfl (hF.at 0 rfl) rfl) rfl rfl rfl fun a hF=>?_
    refine E.opvg hF (r_bin (hF.at 0 rfl) ev_c eg_scalar (bi_int (ic_gtr (c:=false) (dec_ff (by omega))) (by simp))) (wanted_by rfl rfl (hF.at 1 rfl) rfl) rfl rfl rfl fun a hF=>?_
    refine E.opv hF (r_pick_f (hF.at 2 rfl) (hF.at 0 rfl)) rfl rfl rfl rfl fun a hF=>?_
    refine E.opv hF (r_assign (hF.at 0 rfl)) rfl rfl rfl rfl fun a hF=>?_
    refine E.nil ?_
    refine wp_cond_false (hF.at 0 rfl) ?_
    refine wp_skip ?_
    refine E.blk ?_
    refine E.norm ?_
    refine wp_seq ?_
    refine E.seq ?_
    refine E.opv hF (r_move (hF.at 27 rfl)) rfl rfl rfl rfl fun a hF=>?_
    refine E.opv hF (r_bin (hF.at 0 rfl) ev_c eg_scalar (bi_int (ic_eql (c:=true) (by decide)) (by simp))) rfl rfl rfl rfl fun a hF=>?_
    refine E.opv hF (r_move (hF.at 0 rfl)) rfl rfl rfl rfl fun a hF=>?_
    refine E.opvg hF (r_move (hF.at 21 rfl)) (wanted_by rfl rfl (hF.at 0 rfl) rfl) rfl rfl rfl fun a hF=>?_
    refine E.opvg hF (r_bin (hF.at 0 rfl) ev_c eg_scalar (bi_int (ic_eql (c:=true) (by decide)) (by simp))) (wanted_by rfl rfl (hF.at 1 rfl) rfl) rfl rfl rfl fun a hF=>?_
    refine E.opv hF (r_pick_t (hF.at 2 rfl) (hF.at 0 rfl)) rfl rfl rfl rfl fun a hF=>?_
    refine E.opset (L':=[(6,.bool true),(87,.bool true),(86,.bool true),(85,.int .i64 0),(84,.bool true),(83,.bool true),(82,.int .i64 0),(68,.bool false),(74,.bool false),(73,.bool false),(72,.int .i64 n),(71,.bool false),(70,.bool false),(69,.int .i64 n),(53,.bool false),(56,.bool false),(55,.int .i64 (plE pa xb pc xd)),(54,.agg #[.int .i64 pa,.int .i64 xb,.int .i64 pc,.int .i64 xd]),(35,.bool false),(41,.bool false),(40,.bool false),(39,.int .i64 r),(38,.bool false),(37,.bool false),(36,.int .i64 r),(10,.int .i64 0),(9,.int .i64 (soN (criF r pa xb pc xd) 0 1 1)),(34,.int .i64 0),(33,.int .i64 (soN (criF r pa xb pc xd) 0 1 1)),(28,.tuple #[.int .i64 (soN (criF r pa xb pc xd) 0 1 1),.int .i64 0]),(32,.tuple #[.int .i64 (soN (criF r pa xb pc xd) 0 1 1),.int .i64 0]),(31,.agg #[.int .i64 pa,.int .i64 xb,.int .i64 pc,.int .i64 xd]),(30,.agg #[.int .i64 0,.int .i64 1,.int .i64 1]),(29,.int .i64 r),(8,.int .i64 0),(7,.pointer (some ⟨g7,0,none⟩)),(27,.int .i64 0),(26,.agg #[.int .i64 (kaV (criQ r n pa xb pc xd)/12-1955880000-3179),.int .i64 (kaV (criQ r n pa xb pc xd)%12+1),.int .i64 (n-fsD (criF r pa xb pc xd) n+1)]),(21,.tuple #[.agg #[.int .i64 (kaV (criQ r n pa xb pc xd)/12-1955880000-3179),.int .i64 (kaV (criQ r n pa xb pc xd)%12+1),.int .i64 (n-fsD (criF r pa xb pc xd) n+1)],.int .i64 0]),(25,.tuple #[.agg #[.int .i64 (kaV (criQ r n pa xb pc xd)/12-1955880000-3179),.int .i64 (kaV (criQ r n pa xb pc xd)%12+1),.int .i64 (n-fsD (criF r pa xb pc xd) n+1)],.int .i64 0]),(24,.agg #[.int .i64 pa,.int .i64 xb,.int .i64 pc,.int .i64 xd]),(23,.int .i64 n),(22,.int .i64 r),(20,.pointer (some ⟨g5,2,none⟩)),(19,.pointer (some ⟨g5,0,none⟩)),(18,.int .i64 pc),(17,.int .i64 xc),(16,.pointer (some ⟨g5,2,none⟩)),(15,.int .i64 pa),(14,.int .i64 xa),(13,.pointer (some ⟨g5,0,none⟩)),(12,.bool false),(11,.bool true),(5,.pointer (some ⟨g5,0,none⟩)),(0,.int .i64 r),(1,.int .i64 n),(2,.agg #[.int .i64 xa,.int .i64 xb,.int .i64 xc,.int .i64 xd])]) hF (r_assign (hF.at 0 rfl)) rfl rfl rfl rfl fun a hF=>?_
    refine E.nil ?_
    refine wp_ret ?_
    have bel:=st.bel
    refine bodyPost_ret (res_tmp Tryz.results8 (hF.at 0 rfl)) hF.dfr ?_
    exact⟨rfl,bel⟩
   ·have st:=St.start w
    refine E.enter (nt:=88) (L:=[(0,.int .i64 r),(1,.int .i64 n),(2,.agg #[.int .i64 xa,.int .i64 xb,.int .i64 xc,.int .i64 xd])]) Tryz.func8 rfl rfl rfl (args_cons (i:=0) rfl (args_cons (i:=1) rfl (args_cons (i:=2) rfl args_nil))) ?_
    intro a hF
    refine wp_seq ?_
    refine E.seq ?_
    refine S.box st hF (hF.at 2 rfl) rfl rfl fun g5 w1 a st hF=>?_
    refine E.opv hF (r_assign ev_c) rfl rfl rfl rfl fun a hF=>?_
    refine E.nil ?_
    refine wp_seq ?_
    refine wp_seq ?_
    refine E.seq ?_
    refine S.callx st hF (rgc k13 map0) (awake18_any _ (hT.below st.bel)) rfl rfl rfl rfl fun w2 a st hF=>?_
    refine E.opv hF (r_un (hF.at 0 rfl) (bn_not _ false rfl)) rfl rfl rfl rfl fun a hF=>?_
    refine E.nil ?_
    refine wp_cond_false (hF.at 0 rfl) ?_
    refine wp_skip ?_
    refine E.norm ?_
    refine wp_seq ?_
    refine E.seq ?_
    refine E.opv hF (r_field (hF.at 3 rfl) (fa_Plc_0 (p:=0) rfl)) rfl rfl rfl rfl fun a hF=>?_
    refine E.opv hF (r_load (hF.at 0 rfl) (ldb_i64 (v:= .int .i64 xa) (st.bk 0 rfl) rfl)) rfl rfl rfl rfl fun a hF=>?_
    refine E.opv hF (r_bin (hF.at 0 rfl) ev_c eg_scalar (rem_p ha)) rfl rfl rfl rfl fun a hF=>?_
    refine E.opv hF (r_field (hF.at 6 rfl) (fa_Plc_2 (p:=2) rfl)) rfl rfl rfl rfl fun a hF=>?_
    refine E.opv hF (r_load (hF.at 0 rfl) (ldb_i64 (v:= .int .i64 xc) (st.bk 0 rfl) rfl)) rfl rfl rfl rfl fun a hF=>?_
    refine E.opv hF (r_bin (hF.at 0 rfl) ev_c eg_scalar (rem_p hc)) rfl rfl rfl rfl fun a hF=>?_
    refine E.opv hF (r_field (hF.at 9 rfl) (fa_Plc_0 (p:=0) rfl)) rfl rfl rfl rfl fun a hF=>?_
    refine S.stooI (o:=0) (vs:=[.int .i64 pa]) (ws:=[.int .i64 pa,.int .i64 xb,.int .i64 xc,.int .i64 xd]) st hF 0 rfl (hF.at 0 rfl) (hF.at 4 rfl) rfl sz_i64 rfl rfl rfl rfl fun w3 a st hF=>?_
    refine E.opv hF (r_field (hF.at 10 rfl) (fa_Plc_2 (p:=2) rfl)) rfl rfl rfl rfl fun a hF=>?_
    refine S.stooI (o:=2) (vs:=[.int .i64 pc]) (ws:=[.int .i64 pa,.int .i64 xb,.int .i64 pc,.int .i64 xd]) st hF 0 rfl (hF.at 0 rfl) (hF.at 2 rfl) rfl sz_i64 rfl rfl rfl rfl fun w4 a st hF=>?_
    refine E.nil ?_
    refine wp_seq ?_
    refine E.seq ?_
    refine E.opv hF (r_move (hF.at 12 rfl)) rfl rfl rfl rfl fun a hF=>?_
    refine E.opv hF (r_move (hF.at 14 rfl)) rfl rfl rfl rfl fun a hF=>?_
    refine E.opv hF (r_load (hF.at 13 rfl) (ld_all ty_Plc (st.bk 0 rfl) rfl)) rfl rfl rfl rfl fun a hF=>?_
    refine S.callx st hF (rgc k24 (map3 (hF.at 2 rfl) (hF.at 1 rfl) (hF.at 0 rfl))) (soOfR_any r n pa xb pc xd _ (by omega) (by omega)) rfl rfl rfl rfl fun w5 a st hF=>?_
    refine E.opv hF (r_move (hF.at 0 rfl)) rfl rfl rfl rfl fun a hF=>?_
    refine E.opv hF (r_extract (v:= .agg #[.int .i64 0,.int .i64 0,.int .i64 0]) (hF.at 0 rfl) rfl) rfl rfl rfl rfl fun a hF=>?_
    refine E.opv hF (r_extract (v:= .int .i64 2) (hF.at 1 rfl) rfl) rfl rfl rfl rfl fun a hF=>?_
    refine S.new st hF 1 rfl ty_SOD rfl rfl rfl rfl rfl fun g7 w6 a st hF=>?_
    refine E.opv hF (r_assign (hF.at 1 rfl)) rfl rfl rfl rfl fun a hF=>?_
    refine E.nil ?_
    refine wp_seq ?_
    refine E.seq ?_
    refine E.opv hF (r_move (hF.at 21 rfl)) rfl rfl rfl rfl fun a hF=>?_
    refine E.opv hF (r_build (pair2 ev_c ev_c) (bd_SOD_12 _ _ _)) rfl rfl rfl rfl fun a hF=>?_
    refine E.opv hF (r_load (hF.at 22 rfl) (ld_all ty_Plc (st.bk 1 rfl) rfl)) rfl rfl rfl rfl fun a hF=>?_
    refine S.callx st hF (rgc k25 (map3 (hF.at 2 rfl) (hF.at 1 rfl) (hF.at 0 rfl))) (soFixT_any r 0 1 1 pa xb pc xd (soN (criF r pa xb pc xd) 0 1 1) 0 _ (hT.below st.bel) (by first|assumption|exact⟨by omega,by omega,by omega,by omega,by omega,by omega,by omega,by omega⟩) (by omega) (by omega) (by omega) (by omega) (by omega) (by omega) (by omega) (by omega) rfl (so_first0 r hok)) rfl rfl rfl rfl fun w7 a st hF=>?_
    refine E.opv hF (r_move (hF.at 0 rfl)) rfl rfl rfl rfl fun a hF=>?_
    refine E.opv hF (r_extract (v:= .int .i64 (soN (criF r pa xb pc xd) 0 1 1)) (hF.at 0 rfl) rfl) rfl rfl rfl rfl fun a hF=>?_
    refine E.opv hF (r_extract (v:= .int .i64 0) (hF.at 1 rfl) rfl) rfl rfl rfl rfl fun a hF=>?_
    refine E.opv hF (r_assign (hF.at 1 rfl)) rfl rfl rfl rfl fun a hF=>?_
    refine E.opv hF (r_assign (hF.at 1 rfl)) rfl rfl rfl rfl fun a hF=>?_
    refine E.nil ?_
    refine wp_seq ?_
    refine wp_block ?_
    refine wp_seq ?_
    refine E.seq ?_
    refine E.opv hF (r_move (hF.at 30 rfl)) rfl rfl rfl rfl fun a hF=>?_
    refine E.opv hF (r_bin (hF.at 0 rfl) ev_c eg_scalar (bi_int (ic_lss (c:=false) (dec_ff (by omega))) (by simp))) rfl rfl rfl rfl fun a hF=>?_
    refine E.opv hF (r_move (hF.at 0 rfl)) rfl rfl rfl rfl fun a hF=>?_
    refine E.opvg hF (r_move (hF.at 33 rfl)) (wanted_by rfl rfl (hF.at 0 rfl) rfl) rfl rfl rfl fun a hF=>?_
    refine E.opvg hF (r_bin (hF.at 0 rfl) ev_c eg_scalar (bi_int (ic_gtr (c:=false) (dec_ff (by omega))) (by simp))) (wanted_by rfl rfl (hF.at 1 rfl) rfl) rfl rfl rfl fun a hF=>?_
    refine E.opv hF (r_pick_f (hF.at 2 rfl) (hF.at 0 rfl)) rfl rfl rfl rfl fun a hF=>?_
    refine E.opv hF (r_assign (hF.at 0 rfl)) rfl rfl rfl rfl fun a hF=>?_
    refine E.nil ?_
    refine wp_cond_false (hF.at 0 rfl) ?_
    refine wp_seq ?_
    refine E.seq ?_
    refine E.opv hF (r_load (hF.at 36 rfl) (ld_all ty_Plc (st.bk 1 rfl) rfl)) rfl rfl rfl rfl fun a hF=>?_
    refine S.callx st hF (rgc k32 (map1 (hF.at 0 rfl))) (pCheck_any pa xb pc xd _) rfl rfl rfl rfl fun w8 a st hF=>?_
    refine E.opv hF (r_bin (hF.at 0 rfl) ev_c eg_scalar (bi_int (ic_neq (c:=false) (dec_ff (by omega))) (by simp))) rfl rfl rfl rfl fun a hF=>?_
    refine E.opv hF (r_assign (hF.at 0 rfl)) rfl rfl rfl rfl fun a hF=>?_
    refine E.nil ?_
    refine wp_cond_false (hF.at 0 rfl) ?_
    refine wp_seq ?_
    refine E.seq ?_
    refine E.opv hF (r_move (hF.at 42 rfl)) rfl rfl rfl rfl fun a hF=>?_
    by_cases hc9:n<(-3000000)
    ·refine E.opv hF (r_bin (hF.at 0 rfl) ev_c eg_scalar (bi_int (ic_lss (c:=true) (dec_tt hc9)) (by simp))) rfl rfl rfl rfl fun a hF=>?_
     refine E.opv hF (r_move (hF.at 0 rfl)) rfl rfl rfl rfl fun a hF=>?_
     refine E.unwanted hF (wanted_by rfl rfl (hF.at 0 rfl) rfl) rfl rfl rfl fun a hF=>?_
     refine E.unwanted hF (wanted_by rfl rfl (hF.at 1 rfl) rfl) rfl rfl rfl fun a hF=>?_
     refine E.opv hF (r_pick_t (hF.at 2 rfl) ev_c) rfl rfl rfl rfl fun a hF=>?_
     refine E.opv hF (r_assign (hF.at 0 rfl)) rfl rfl rfl rfl fun a hF=>?_
     refine E.nil ?_
     refine wp_cond_true (hF.at 0 rfl) ?_
     refine wp_seq ?_
     refine E.seq ?_
     refine E.opv hF (r_move (hF.at 27 rfl)) rfl rfl rfl rfl fun a hF=>?_
     refine E.opv hF (r_bin (hF.at 0 rfl) ev_c eg_scalar (bi_int (ic_eql (c:=true) (by decide)) (by simp))) rfl rfl rfl rfl fun a hF=>?_
     refine E.opv hF (r_move (hF.at 0 rfl)) rfl rfl rfl rfl fun a hF=>?_
     refine E.opvg hF (r_load (hF.at 31 rfl) (ld_all ty_SOD (st.bk 0 rfl) rfl)) (wanted_by rfl rfl (hF.at 0 rfl) rfl) rfl rfl rfl fun a hF=>?_
     refine E.opvg hF (r_build (by simp) (bd_SOD_ _)) (wanted_by rfl rfl (hF.at 1 rfl) rfl) rfl rfl rfl fun a hF=>?_
     refine E.opvg hF (r_bin (hF.at 1 rfl) (hF.at 0 rfl) eg_SOD (es_SOD (dec_tt (by simp)))) (wanted_by rfl rfl (hF.at 2 rfl) rfl) rfl rfl rfl fun a hF=>?_
     refine E.opv hF (r_pick_t (hF.at 3 rfl) (hF.at 0 rfl)) rfl rfl rfl rfl fun a hF=>?_
     refine E.opset (L':=[(6,.bool true),(81,.bool true),(80,.bool true),(79,.agg #[.int .i64 0,.int .i64 0,.int .i64 0]),(78,.agg #[.int .i64 0,.int .i64 0,.int .i64 0]),(77,.bool true),(76,.bool true),(75,.int .i64 2),(68,.bool true),(74,.bool true),(73,undef),(72,undef),(71,.bool true),(70,.bool true),(69,.int .i64 n),(53,.bool false),(56,.bool false),(55,.int .i64 (plE pa xb pc xd)),(54,.agg #[.int .i64 pa,.int .i64 xb,.int .i64 pc,.int .i64 xd]),(35,.bool false),(41,.bool false),(40,.bool false),(39,.int .i64 r),(38,.bool false),(37,.bool false),(36,.int .i64 r),(10,.int .i64 0),(9,.int .i64 (soN (criF r pa xb pc xd) 0 1 1)),(34,.int .i64 0),(33,.int .i64 (soN (criF r pa xb pc xd) 0 1 1)),(28,.tuple #[.int .i64 (soN (criF r pa xb pc xd) 0 1 1),.int .i64 0]),(32,.tuple #[.int .i64 (soN (criF r pa xb pc xd) 0 1 1),.int .i64 0]),(31,.agg #[.int .i64 pa,.int .i64 xb,.int .i64 pc,.int .i64 xd]),(30,.agg #[.int .i64 0,.int .i64 1,.int .i64 1]),(29,.int .i64 r),(8,.int .i64 2),(7,.pointer (some ⟨g7,0,none⟩)),(27,.int .i64 2),(26,.agg #[.int .i64 0,.int .i64 0,.int .i64 0]),(21,.tuple #[.agg #[.int .i64 0,.int .i64 0,.int .i64 0],.int .i64 2]),(25,.tuple #[.agg #[.int .i64 0,.int .i64 0,.int .i64 0],.int .i64 2]),(24,.agg #[.int .i64 pa,.int .i64 xb,.int .i64 pc,.int .i64 xd]),(23,.int .i64 n),(22,.int .i64 r),(20,.pointer (some ⟨g5,2,none⟩)),(19,.pointer (some ⟨g5,0,none⟩)),(18,.int .i64 pc),(17,.int .i64 xc),(16,.pointer (some ⟨g5,2,none⟩)),(15,.int .i64 pa),(14,.int .i64 xa),(13,.pointer (some ⟨g5,0,none⟩)),(12,.bool false),(11,.bool true),(5,.pointer (some ⟨g5,0,none⟩)),(0,.int .i64 r),(1,.int .i64 n),(2,.agg #[.int .i64 xa,.int .i64 xb,.int .i64 xc,.int .i64 xd])]) hF (r_assign (hF.at 0 rfl)) rfl rfl rfl rfl fun a hF=>?_
     refine E.nil ?_
     refine wp_ret ?_
     have bel:=st.bel
     refine bodyPost_ret (res_tmp Tryz.results8 (hF.at 0 rfl)) hF.dfr ?_
     exact⟨rfl,bel⟩
    ·refine E.opv hF (r_bin (hF.at 0 rfl) ev_c eg_scalar (bi_int (ic_lss (c:=false) (dec_ff hc9)) (by simp))) rfl rfl rfl rfl fun a hF=>?_
     refine E.opv hF (r_move (hF.at 0 rfl)) rfl rfl rfl rfl fun a hF=>?_
     refine E.opvg hF (r_move (hF.at 45 rfl)) (wanted_by rfl rfl (hF.at 0 rfl) rfl) rfl rfl rfl fun a hF=>?_
     by_cases hc10:3000000<n
     ·refine E.opvg hF (r_bin (hF.at 0 rfl) ev_c eg_scalar (bi_int (ic_gtr (c:=true) (dec_tt hc10)) (by simp))) (wanted_by rfl rfl (hF.at 1 rfl) rfl) rfl rfl rfl fun a hF=>?_
      refine E.opv hF (r_pick_f (hF.at 2 rfl) (hF.at 0 rfl)) rfl rfl rfl rfl fun a hF=>?_
      refine E.opv hF (r_assign (hF.at 0 rfl)) rfl rfl rfl rfl fun a hF=>?_
      refine E.nil ?_
      refine wp_cond_true (hF.at 0 rfl) ?_
      refine wp_seq ?_
      refine E.seq ?_
      refine E.opv hF (r_move (hF.at 27 rfl)) rfl rfl rfl rfl fun a hF=>?_
      refine E.opv hF (r_bin (hF.at 0 rfl) ev_c eg_scalar (bi_int (ic_eql (c:=true) (by decide)) (by simp))) rfl rfl rfl rfl fun a hF=>?_
      refine E.opv hF (r_move (hF.at 0 rfl)) rfl rfl rfl rfl fun a hF=>?_
      refine E.opvg hF (r_load (hF.at 31 rfl) (ld_all ty_SOD (st.bk 0 rfl) rfl)) (wanted_by rfl rfl (hF.at 0 rfl) rfl) rfl rfl rfl fun a hF=>?_
      refine E.opvg hF (r_build (by simp) (bd_SOD_ _)) (wanted_by rfl rfl (hF.at 1 rfl) rfl) rfl rfl rfl fun a hF=>?_
      refine E.opvg hF (r_bin (hF.at 1 rfl) (hF.at 0 rfl) eg_SOD (es_SOD (dec_tt (by simp)))) (wanted_by rfl rfl (hF.at 2 rfl) rfl) rfl rfl rfl fun a hF=>?_
      refine E.opv hF (r_pick_t (hF.at 3 rfl) (hF.at 0 rfl)) rfl rfl rfl rfl fun a hF=>?_
      refine E.opset (L':=[(6,.bool true),(81,.bool true),(80,.bool true),(79,.agg #[.int .i64 0,.int .i64 0,.int .i64 0]),(78,.agg #[.int .i64 0,.int .i64 0,.int .i64 0]),(77,.bool true),(76,.bool true),(75,.int .i64 2),(68,.bool true),(74,.bool true),(73,.bool true),(72,.int .i64 n),(71,.bool false),(70,.bool false),(69,.int .i64 n),(53,.bool false),(56,.bool false),(55,.int .i64 (plE pa xb pc xd)),(54,.agg #[.int .i64 pa,.int .i64 xb,.int .i64 pc,.int .i64 xd]),(35,.bool false),(41,.bool false),(40,.bool false),(39,.int .i64 r),(38,.bool false),(37,.bool false),(36,.int .i64 r),(10,.int .i64 0),(9,.int .i64 (soN (criF r pa xb pc xd) 0 1 1)),(34,.int .i64 0),(33,.int .i64 (soN (criF r pa xb pc xd) 0 1 1)),(28,.tuple #[.int .i64 (soN (criF r pa xb pc xd) 0 1 1),.int .i64 0]),(32,.tuple #[.int .i64 (soN (criF r pa xb pc xd) 0 1 1),.int .i64 0]),(31,.agg #[.int .i64 pa,.int .i64 xb,.int .i64 pc,.int .i64 xd]),(30,.agg #[.int .i64 0,.int .i64 1,.int .i64 1]),(29,.int .i64 r),(8,.int .i64 2),(7,.pointer (some ⟨g7,0,none⟩)),(27,.int .i64 2),(26,.agg #[.int .i64 0,.int .i64 0,.int .i64 0]),(21,.tuple #[.agg #[.int .i64 0,.int .i64 0,.int .i64 0],.int .i64 2]),(25,.tuple #[.agg #[.int .i64 0,.int .i64 0,.int .i64 0],.int .i64 2]),(24,.agg #[.int .i64 pa,.int .i64 xb,.int .i64 pc,.int .i64 xd]),(23,.int .i64 n),(22,.int .i64 r),(20,.pointer (some ⟨g5,2,none⟩)),(19,.pointer (some ⟨g5,0,none⟩)),(18,.int .i64 pc),(17,.int .i64 xc),(16,.pointer (some ⟨g5,2,none⟩)),(15,.int .i64 pa),(14,.int .i64 xa),(13,.pointer (some ⟨g5,0,none⟩)),(12,.bool false),(11,.bool true),(5,.pointer (some ⟨g5,0,none⟩)),(0,.int .i64 r),(1,.int .i64 n),(2,.agg #[.int .i64 xa,.int .i64 xb,.int .i64 xc,.int .i64 xd])]) hF (r_assign (hF.at 0 rfl)) rfl rfl rfl rfl fun a hF=>?_
      refine E.nil ?_
      refine wp_ret ?_
      have bel:=st.bel
      refine bodyPost_ret (res_tmp Tryz.results8 (hF.at 0 rfl)) hF.dfr ?_
      exact⟨rfl,bel⟩
     ·exfalso;omega
  ·have h2:=pl_2 pa xb pc xd
   have hcp:=ckE_p (a:=pa) (b:=xb) (c:=pc) (d:=xd) hr
   have st:=St.start w
   refine E.enter (nt:=88) (L:=[(0,.int .i64 r),(1,.int .i64 n),(2,.agg #[.int .i64 xa,.int .i64 xb,.int .i64 xc,.int .i64 xd])]) Tryz.func8 rfl rfl rfl (args_cons (i:=0) rfl (args_cons (i:=1) rfl (args_cons (i:=2) rfl args_nil))) ?_
   intro a hF
   refine wp_seq ?_
   refine E.seq ?_
   refine S.box st hF (hF.at 2 rfl) rfl rfl fun g5 w1 a st hF=>?_
   refine E.opv hF (r_assign ev_c) rfl rfl rfl rfl fun a hF=>?_
   refine E.nil ?_
   refine wp_seq ?_
   refine wp_seq ?_
   refine E.seq ?_
   refine S.callx st hF (rgc k13 map0) (awake18_any _ (hT.below st.bel)) rfl rfl rfl rfl fun w2 a st hF=>?_
   refine E.opv hF (r_un (hF.at 0 rfl) (bn_not _ false rfl)) rfl rfl rfl rfl fun a hF=>?_
   refine E.nil ?_
   refine wp_cond_false (hF.at 0 rfl) ?_
   refine wp_skip ?_
   refine E.norm ?_
   refine wp_seq ?_
   refine E.seq ?_
   refine E.opv hF (r_field (hF.at 3 rfl) (fa_Plc_0 (p:=0) rfl)) rfl rfl rfl rfl fun a hF=>?_
   refine E.opv hF (r_load (hF.at 0 rfl) (ldb_i64 (v:= .int .i64 xa) (st.bk 0 rfl) rfl)) rfl rfl rfl rfl fun a hF=>?_
   refine E.opv hF (r_bin (hF.at 0 rfl) ev_c eg_scalar (rem_p ha)) rfl rfl rfl rfl fun a hF=>?_
   refine E.opv hF (r_field (hF.at 6 rfl) (fa_Plc_2 (p:=2) rfl)) rfl rfl rfl rfl fun a hF=>?_
   refine E.opv hF (r_load (hF.at 0 rfl) (ldb_i64 (v:= .int .i64 xc) (st.bk 0 rfl) rfl)) rfl rfl rfl rfl fun a hF=>?_
   refine E.opv hF (r_bin (hF.at 0 rfl) ev_c eg_scalar (rem_p hc)) rfl rfl rfl rfl fun a hF=>?_
   refine E.opv hF (r_field (hF.at 9 rfl) (fa_Plc_0 (p:=0) rfl)) rfl rfl rfl rfl fun a hF=>?_
   refine S.stooI (o:=0) (vs:=[.int .i64 pa]) (ws:=[.int .i64 pa,.int .i64 xb,.int .i64 xc,.int .i64 xd]) st hF 0 rfl (hF.at 0 rfl) (hF.at 4 rfl) rfl sz_i64 rfl rfl rfl rfl fun w3 a st hF=>?_
   refine E.opv hF (r_field (hF.at 10 rfl) (fa_Plc_2 (p:=2) rfl)) rfl rfl rfl rfl fun a hF=>?_
   refine S.stooI (o:=2) (vs:=[.int .i64 pc]) (ws:=[.int .i64 pa,.int .i64 xb,.int .i64 pc,.int .i64 xd]) st hF 0 rfl (hF.at 0 rfl) (hF.at 2 rfl) rfl sz_i64 rfl rfl rfl rfl fun w4 a st hF=>?_
   refine E.nil ?_
   refine wp_seq ?_
   refine E.seq ?_
   refine E.opv hF (r_move (hF.at 12 rfl)) rfl rfl rfl rfl fun a hF=>?_
   refine E.opv hF (r_move (hF.at 14 rfl)) rfl rfl rfl rfl fun a hF=>?_
   refine E.opv hF (r_load (hF.at 13 rfl) (ld_all ty_Plc (st.bk 0 rfl) rfl)) rfl rfl rfl rfl fun a hF=>?_
   refine S.callx st hF (rgc k24 (map3 (hF.at 2 rfl) (hF.at 1 rfl) (hF.at 0 rfl))) (soOfE_any r n pa xb pc xd _ (by omega)) rfl rfl rfl rfl fun w5 a st hF=>?_
   refine E.opv hF (r_move (hF.at 0 rfl)) rfl rfl rfl rfl fun a hF=>?_
   refine E.opv hF (r_extract (v:= .agg #[.int .i64 0,.int .i64 0,.int .i64 0]) (hF.at 0 rfl) rfl) rfl rfl rfl rfl fun a hF=>?_
   refine E.opv hF (r_extract (v:= .int .i64 (ckE r pa xb pc xd)) (hF.at 1 rfl) rfl) rfl rfl rfl rfl fun a hF=>?_
   refine S.new st hF 1 rfl ty_SOD rfl rfl rfl rfl rfl fun g7 w6 a st hF=>?_
   refine E.opv hF (r_assign (hF.at 1 rfl)) rfl rfl rfl rfl fun a hF=>?_
   refine E.nil ?_
   refine wp_seq ?_
   refine E.seq ?_
   refine E.opv hF (r_move (hF.at 21 rfl)) rfl rfl rfl rfl fun a hF=>?_
   refine E.opv hF (r_build (pair2 ev_c ev_c) (bd_SOD_12 _ _ _)) rfl rfl rfl rfl fun a hF=>?_
   refine E.opv hF (r_load (hF.at 22 rfl) (ld_all ty_Plc (st.bk 1 rfl) rfl)) rfl rfl rfl rfl fun a hF=>?_
   refine S.callx st hF (rgc k25 (map3 (hF.at 2 rfl) (hF.at 1 rfl) (hF.at 0 rfl))) (soFixE_any r 0 1 1 pa xb pc xd _ (by omega)) rfl rfl rfl rfl fun w7 a st hF=>?_
   refine E.opv hF (r_move (hF.at 0 rfl)) rfl rfl rfl rfl fun a hF=>?_
   refine E.opv hF (r_extract (v:= .int .i64 0) (hF.at 0 rfl) rfl) rfl rfl rfl rfl fun a hF=>?_
   refine E.opv hF (r_extract (v:= .int .i64 (ckE r pa xb pc xd)) (hF.at 1 rfl) rfl) rfl rfl rfl rfl fun a hF=>?_
   refine E.opv hF (r_assign (hF.at 1 rfl)) rfl rfl rfl rfl fun a hF=>?_
   refine E.opv hF (r_assign (hF.at 1 rfl)) rfl rfl rfl rfl fun a hF=>?_
   refine E.nil ?_
   refine wp_seq ?_
   refine wp_block ?_
   refine wp_seq ?_
   refine E.seq ?_
   refine E.opv hF (r_move (hF.at 30 rfl)) rfl rfl rfl rfl fun a hF=>?_
   refine E.opv hF (r_bin (hF.at 0 rfl) ev_c eg_scalar (bi_int (ic_lss (c:=false) (dec_ff (by omega))) (by simp))) rfl rfl rfl rfl fun a hF=>?_
   refine E.opv hF (r_move (hF.at 0 rfl)) rfl rfl rfl rfl fun a hF=>?_
   refine E.opvg hF (r_move (hF.at 33 rfl)) (wanted_by rfl rfl (hF.at 0 rfl) rfl) rfl rfl rfl fun a hF=>?_
   refine E.opvg hF (r_bin (hF.at 0 rfl) ev_c eg_scalar (bi_int (ic_gtr (c:=false) (dec_ff (by omega))) (by simp))) (wanted_by rfl rfl (hF.at 1 rfl) rfl) rfl rfl rfl fun a hF=>?_
   refine E.opv hF (r_pick_f (hF.at 2 rfl) (hF.at 0 rfl)) rfl rfl rfl rfl fun a hF=>?_
   refine E.opv hF (r_assign (hF.at 0 rfl)) rfl rfl rfl rfl fun a hF=>?_
   refine E.nil ?_
   refine wp_cond_false (hF.at 0 rfl) ?_
   refine wp_seq ?_
   refine E.seq ?_
   refine E.opv hF (r_load (hF.at 36 rfl) (ld_all ty_Plc (st.bk 1 rfl) rfl)) rfl rfl rfl rfl fun a hF=>?_
   refine S.callx st hF (rgc k32 (map1 (hF.at 0 rfl))) (pCheck_any pa xb pc xd _) rfl rfl rfl rfl fun w8 a st hF=>?_
   refine E.opv hF (r_bin (hF.at 0 rfl) ev_c eg_scalar (bi_int (ic_neq (c:=true) (dec_tt (by omega))) (by simp))) rfl rfl rfl rfl fun a hF=>?_
   refine E.opv hF (r_assign (hF.at 0 rfl)) rfl rfl rfl rfl fun a hF=>?_
   refine E.nil ?_
   refine wp_cond_true (hF.at 0 rfl) ?_
   refine wp_seq ?_
   refine E.seq ?_
   refine E.opv hF (r_move (hF.at 20 rfl)) rfl rfl rfl rfl fun a hF=>?_
   refine E.opv hF (r_bin (hF.at 0 rfl) ev_c eg_scalar (bi_int (ic_eql (c:=true) (dec_tt (by omega))) (by simp))) rfl rfl rfl rfl fun a hF=>?_
   refine E.opv hF (r_move (hF.at 0 rfl)) rfl rfl rfl rfl fun a hF=>?_
   refine E.opvg hF (r_move (hF.at 14 rfl)) (wanted_by rfl rfl (hF.at 0 rfl) rfl) rfl rfl rfl fun a hF=>?_
   refine E.opvg hF (r_bin (hF.at 0 rfl) ev_c eg_scalar (bi_int (ic_eql (c:=true) (dec_tt (by omega))) (by simp))) (wanted_by rfl rfl (hF.at 1 rfl) rfl) rfl rfl rfl fun a hF=>?_
   refine E.opv hF (r_pick_t (hF.at 2 rfl) (hF.at 0 rfl)) rfl rfl rfl rfl fun a hF=>?_
   refine E.opv hF (r_move (hF.at 0 rfl)) rfl rfl rfl rfl fun a hF=>?_
   refine E.opvg hF (r_load (hF.at 28 rfl) (ld_all ty_SOD (st.bk 0 rfl) rfl)) (wanted_by rfl rfl (hF.at 0 rfl) rfl) rfl rfl rfl fun a hF=>?_
   refine E.opvg hF (r_build (by simp) (bd_SOD_ _)) (wanted_by rfl rfl (hF.at 1 rfl) rfl) rfl rfl rfl fun a hF=>?_
   refine E.opvg hF (r_bin (hF.at 1 rfl) (hF.at 0 rfl) eg_SOD (es_SOD (dec_tt (by simp)))) (wanted_by rfl rfl (hF.at 2 rfl) rfl) rfl rfl rfl fun a hF=>?_
   refine E.opv hF (r_pick_t (hF.at 3 rfl) (hF.at 0 rfl)) rfl rfl rfl rfl fun a hF=>?_
   refine E.opset (L':=[(6,.bool true),(67,.bool true),(66,.bool true),(65,.agg #[.int .i64 0,.int .i64 0,.int .i64 0]),(64,.agg #[.int .i64 0,.int .i64 0,.int .i64 0]),(63,.bool true),(62,.bool true),(61,.bool true),(60,.int .i64 (ckE r pa xb pc xd)),(59,.bool true),(58,.bool true),(57,.int .i64 (ckE r pa xb pc xd)),(53,.bool true),(56,.bool true),(55,.int .i64 (plE pa xb pc xd)),(54,.agg #[.int .i64 pa,.int .i64 xb,.int .i64 pc,.int .i64 xd]),(35,.bool false),(41,.bool false),(40,.bool false),(39,.int .i64 r),(38,.bool false),(37,.bool false),(36,.int .i64 r),(10,.int .i64 (ckE r pa xb pc xd)),(9,.int .i64 0),(34,.int .i64 (ckE r pa xb pc xd)),(33,.int .i64 0),(28,.tuple #[.int .i64 0,.int .i64 (ckE r pa xb pc xd)]),(32,.tuple #[.int .i64 0,.int .i64 (ckE r pa xb pc xd)]),(31,.agg #[.int .i64 pa,.int .i64 xb,.int .i64 pc,.int .i64 xd]),(30,.agg #[.int .i64 0,.int .i64 1,.int .i64 1]),(29,.int .i64 r),(8,.int .i64 (ckE r pa xb pc xd)),(7,.pointer (some ⟨g7,0,none⟩)),(27,.int .i64 (ckE r pa xb pc xd)),(26,.agg #[.int .i64 0,.int .i64 0,.int .i64 0]),(21,.tuple #[.agg #[.int .i64 0,.int .i64 0,.int .i64 0],.int .i64 (ckE r pa xb pc xd)]),(25,.tuple #[.agg #[.int .i64 0,.int .i64 0,.int .i64 0],.int .i64 (ckE r pa xb pc xd)]),(24,.agg #[.int .i64 pa,.int .i64 xb,.int .i64 pc,.int .i64 xd]),(23,.int .i64 n),(22,.int .i64 r),(20,.pointer (some ⟨g5,2,none⟩)),(19,.pointer (some ⟨g5,0,none⟩)),(18,.int .i64 pc),(17,.int .i64 xc),(16,.pointer (some ⟨g5,2,none⟩)),(15,.int .i64 pa),(14,.int .i64 xa),(13,.pointer (some ⟨g5,0,none⟩)),(12,.bool false),(11,.bool true),(5,.pointer (some ⟨g5,0,none⟩)),(0,.int .i64 r),(1,.int .i64 n),(2,.agg #[.int .i64 xa,.int .i64 xb,.int .i64 xc,.int .i64 xd])]) hF (r_assign (hF.at 0 rfl)) rfl rfl rfl rfl fun a hF=>?_
   refine E.nil ?_
   refine wp_ret ?_
   have bel:=st.bel
   refine bodyPost_ret (res_tmp Tryz.results8 (hF.at 0 rfl)) hF.dfr ?_
   exact⟨rfl,bel⟩
 ·have st:=St.start w
  refine E.enter (nt:=88) (L:=[(0,.int .i64 r),(1,.int .i64 n),(2,.agg #[.int .i64 xa,.int .i64 xb,.int .i64 xc,.int .i64 xd])]) Tryz.func8 rfl rfl rfl (args_cons (i:=0) rfl (args_cons (i:=1) rfl (args_cons (i:=2) rfl args_nil))) ?_
  intro a hF
  refine wp_seq ?_
  refine E.seq ?_
  refine S.box st hF (hF.at 2 rfl) rfl rfl fun g5 w1 a st hF=>?_
  refine E.opv hF (r_assign ev_c) rfl rfl rfl rfl fun a hF=>?_
  refine E.nil ?_
  refine wp_seq ?_
  refine wp_seq ?_
  refine E.seq ?_
  refine S.callx st hF (rgc k13 map0) (awake18_any _ (hT.below st.bel)) rfl rfl rfl rfl fun w2 a st hF=>?_
  refine E.opv hF (r_un (hF.at 0 rfl) (bn_not _ false rfl)) rfl rfl rfl rfl fun a hF=>?_
  refine E.nil ?_
  refine wp_cond_false (hF.at 0 rfl) ?_
  refine wp_skip ?_
  refine E.norm ?_
  refine wp_seq ?_
  refine E.seq ?_
  refine E.opv hF (r_field (hF.at 3 rfl) (fa_Plc_0 (p:=0) rfl)) rfl rfl rfl rfl fun a hF=>?_
  refine E.opv hF (r_load (hF.at 0 rfl) (ldb_i64 (v:= .int .i64 xa) (st.bk 0 rfl) rfl)) rfl rfl rfl rfl fun a hF=>?_
  refine E.opv hF (r_bin (hF.at 0 rfl) ev_c eg_scalar (rem_p ha)) rfl rfl rfl rfl fun a hF=>?_
  refine E.opv hF (r_field (hF.at 6 rfl) (fa_Plc_2 (p:=2) rfl)) rfl rfl rfl rfl fun a hF=>?_
  refine E.opv hF (r_load (hF.at 0 rfl) (ldb_i64 (v:= .int .i64 xc) (st.bk 0 rfl) rfl)) rfl rfl rfl rfl fun a hF=>?_
  refine E.opv hF (r_bin (hF.at 0 rfl) ev_c eg_scalar (rem_p hc)) rfl rfl rfl rfl fun a hF=>?_
  refine E.opv hF (r_field (hF.at 9 rfl) (fa_Plc_0 (p:=0) rfl)) rfl rfl rfl rfl fun a hF=>?_
  refine S.stooI (o:=0) (vs:=[.int .i64 pa]) (ws:=[.int .i64 pa,.int .i64 xb,.int .i64 xc,.int .i64 xd]) st hF 0 rfl (hF.at 0 rfl) (hF.at 4 rfl) rfl sz_i64 rfl rfl rfl rfl fun w3 a st hF=>?_
  refine E.opv hF (r_field (hF.at 10 rfl) (fa_Plc_2 (p:=2) rfl)) rfl rfl rfl rfl fun a hF=>?_
  refine S.stooI (o:=2) (vs:=[.int .i64 pc]) (ws:=[.int .i64 pa,.int .i64 xb,.int .i64 pc,.int .i64 xd]) st hF 0 rfl (hF.at 0 rfl) (hF.at 2 rfl) rfl sz_i64 rfl rfl rfl rfl fun w4 a st hF=>?_
  refine E.nil ?_
  refine wp_seq ?_
  refine E.seq ?_
  refine E.opv hF (r_move (hF.at 12 rfl)) rfl rfl rfl rfl fun a hF=>?_
  refine E.opv hF (r_move (hF.at 14 rfl)) rfl rfl rfl rfl fun a hF=>?_
  refine E.opv hF (r_load (hF.at 13 rfl) (ld_all ty_Plc (st.bk 0 rfl) rfl)) rfl rfl rfl rfl fun a hF=>?_
  refine S.callx st hF (rgc k24 (map3 (hF.at 2 rfl) (hF.at 1 rfl) (hF.at 0 rfl))) (soOfE_any r n pa xb pc xd _ (by rw[ckE_r hr];decide)) rfl rfl rfl rfl fun w5 a st hF=>?_
  refine E.opv hF (r_move (hF.at 0 rfl)) rfl rfl rfl rfl fun a hF=>?_
  refine E.opv hF (r_extract (v:= .agg #[.int .i64 0,.int .i64 0,.int .i64 0]) (hF.at 0 rfl) rfl) rfl rfl rfl rfl fun a hF=>?_
  refine E.opv hF (r_extract (v:= .int .i64 (ckE r pa xb pc xd)) (hF.at 1 rfl) rfl) rfl rfl rfl rfl fun a hF=>?_
  refine S.new st hF 1 rfl ty_SOD rfl rfl rfl rfl rfl fun g7 w6 a st hF=>?_
  refine E.opv hF (r_assign (hF.at 1 rfl)) rfl rfl rfl rfl fun a hF=>?_
  refine E.nil ?_
  refine wp_seq ?_
  refine E.seq ?_
  refine E.opv hF (r_move (hF.at 21 rfl)) rfl rfl rfl rfl fun a hF=>?_
  refine E.opv hF (r_build (pair2 ev_c ev_c) (bd_SOD_12 _ _ _)) rfl rfl rfl rfl fun a hF=>?_
  refine E.opv hF (r_load (hF.at 22 rfl) (ld_all ty_Plc (st.bk 1 rfl) rfl)) rfl rfl rfl rfl fun a hF=>?_
  refine S.callx st hF (rgc k25 (map3 (hF.at 2 rfl) (hF.at 1 rfl) (hF.at 0 rfl))) (soFixE_any r 0 1 1 pa xb pc xd _ (by rw[ckE_r hr];decide)) rfl rfl rfl rfl fun w7 a st hF=>?_
  refine E.opv hF (r_move (hF.at 0 rfl)) rfl rfl rfl rfl fun a hF=>?_
  refine E.opv hF (r_extract (v:= .int .i64 0) (hF.at 0 rfl) rfl) rfl rfl rfl rfl fun a hF=>?_
  refine E.opv hF (r_extract (v:= .int .i64 (ckE r pa xb pc xd)) (hF.at 1 rfl) rfl) rfl rfl rfl rfl fun a hF=>?_
  refine E.opv hF (r_assign (hF.at 1 rfl)) rfl rfl rfl rfl fun a hF=>?_
  refine E.opv hF (r_assign (hF.at 1 rfl)) rfl rfl rfl rfl fun a hF=>?_
  refine E.nil ?_
  refine wp_seq ?_
  refine wp_block ?_
  refine wp_seq ?_
  refine E.seq ?_
  refine E.opv hF (r_move (hF.at 30 rfl)) rfl rfl rfl rfl fun a hF=>?_
  by_cases hc8:r<0
  ·refine E.opv hF (r_bin (hF.at 0 rfl) ev_c eg_scalar (bi_int (ic_lss (c:=true) (dec_tt hc8)) (by simp))) rfl rfl rfl rfl fun a hF=>?_
   refine E.opv hF (r_move (hF.at 0 rfl)) rfl rfl rfl rfl fun a hF=>?_
   refine E.unwanted hF (wanted_by rfl rfl (hF.at 0 rfl) rfl) rfl rfl rfl fun a hF=>?_
   refine E.unwanted hF (wanted_by rfl rfl (hF.at 1 rfl) rfl) rfl rfl rfl fun a hF=>?_
   refine E.opv hF (r_pick_t (hF.at 2 rfl) ev_c) rfl rfl rfl rfl fun a hF=>?_
   refine E.opv hF (r_assign (hF.at 0 rfl)) rfl rfl rfl rfl fun a hF=>?_
   refine E.nil ?_
   refine wp_cond_true (hF.at 0 rfl) ?_
   refine wp_seq ?_
   refine E.seq ?_
   refine E.opv hF (r_move (hF.at 16 rfl)) rfl rfl rfl rfl fun a hF=>?_
   refine E.opv hF (r_bin (hF.at 0 rfl) ev_c eg_scalar (bi_int (ic_eql (c:=true) (dec_tt (ckE_r hr))) (by simp))) rfl rfl rfl rfl fun a hF=>?_
   refine E.opv hF (r_move (hF.at 0 rfl)) rfl rfl rfl rfl fun a hF=>?_
   refine E.opvg hF (r_move (hF.at 10 rfl)) (wanted_by rfl rfl (hF.at 0 rfl) rfl) rfl rfl rfl fun a hF=>?_
   refine E.opvg hF (r_bin (hF.at 0 rfl) ev_c eg_scalar (bi_int (ic_eql (c:=true) (dec_tt (ckE_r hr))) (by simp))) (wanted_by rfl rfl (hF.at 1 rfl) rfl) rfl rfl rfl fun a hF=>?_
   refine E.opv hF (r_pick_t (hF.at 2 rfl) (hF.at 0 rfl)) rfl rfl rfl rfl fun a hF=>?_
   refine E.opv hF (r_move (hF.at 0 rfl)) rfl rfl rfl rfl fun a hF=>?_
   refine E.opvg hF (r_load (hF.at 24 rfl) (ld_all ty_SOD (st.bk 0 rfl) rfl)) (wanted_by rfl rfl (hF.at 0 rfl) rfl) rfl rfl rfl fun a hF=>?_
   refine E.opvg hF (r_build (by simp) (bd_SOD_ _)) (wanted_by rfl rfl (hF.at 1 rfl) rfl) rfl rfl rfl fun a hF=>?_
   refine E.opvg hF (r_bin (hF.at 1 rfl) (hF.at 0 rfl) eg_SOD (es_SOD (dec_tt (by simp)))) (wanted_by rfl rfl (hF.at 2 rfl) rfl) rfl rfl rfl fun a hF=>?_
   refine E.opv hF (r_pick_t (hF.at 3 rfl) (hF.at 0 rfl)) rfl rfl rfl rfl fun a hF=>?_
   refine E.opset (L':=[(6,.bool true),(52,.bool true),(51,.bool true),(50,.agg #[.int .i64 0,.int .i64 0,.int .i64 0]),(49,.agg #[.int .i64 0,.int .i64 0,.int .i64 0]),(48,.bool true),(47,.bool true),(46,.bool true),(45,.int .i64 (ckE r pa xb pc xd)),(44,.bool true),(43,.bool true),(42,.int .i64 (ckE r pa xb pc xd)),(35,.bool true),(41,.bool true),(40,undef),(39,undef),(38,.bool true),(37,.bool true),(36,.int .i64 r),(10,.int .i64 (ckE r pa xb pc xd)),(9,.int .i64 0),(34,.int .i64 (ckE r pa xb pc xd)),(33,.int .i64 0),(28,.tuple #[.int .i64 0,.int .i64 (ckE r pa xb pc xd)]),(32,.tuple #[.int .i64 0,.int .i64 (ckE r pa xb pc xd)]),(31,.agg #[.int .i64 pa,.int .i64 xb,.int .i64 pc,.int .i64 xd]),(30,.agg #[.int .i64 0,.int .i64 1,.int .i64 1]),(29,.int .i64 r),(8,.int .i64 (ckE r pa xb pc xd)),(7,.pointer (some ⟨g7,0,none⟩)),(27,.int .i64 (ckE r pa xb pc xd)),(26,.agg #[.int .i64 0,.int .i64 0,.int .i64 0]),(21,.tuple #[.agg #[.int .i64 0,.int .i64 0,.int .i64 0],.int .i64 (ckE r pa xb pc xd)]),(25,.tuple #[.agg #[.int .i64 0,.int .i64 0,.int .i64 0],.int .i64 (ckE r pa xb pc xd)]),(24,.agg #[.int .i64 pa,.int .i64 xb,.int .i64 pc,.int .i64 xd]),(23,.int .i64 n),(22,.int .i64 r),(20,.pointer (some ⟨g5,2,none⟩)),(19,.pointer (some ⟨g5,0,none⟩)),(18,.int .i64 pc),(17,.int .i64 xc),(16,.pointer (some ⟨g5,2,none⟩)),(15,.int .i64 pa),(14,.int .i64 xa),(13,.pointer (some ⟨g5,0,none⟩)),(12,.bool false),(11,.bool true),(5,.pointer (some ⟨g5,0,none⟩)),(0,.int .i64 r),(1,.int .i64 n),(2,.agg #[.int .i64 xa,.int .i64 xb,.int .i64 xc,.int .i64 xd])]) hF (r_assign (hF.at 0 rfl)) rfl rfl rfl rfl fun a hF=>?_
   refine E.nil ?_
   refine wp_ret ?_
   have bel:=st.bel
   refine bodyPost_ret (res_tmp Tryz.results8 (hF.at 0 rfl)) hF.dfr ?_
   exact⟨rfl,bel⟩
  ·refine E.opv hF (r_bin (hF.at 0 rfl) ev_c eg_scalar (bi_int (ic_lss (c:=false) (dec_ff hc8)) (by simp))) rfl rfl rfl rfl fun a hF=>?_
   refine E.opv hF (r_move (hF.at 0 rfl)) rfl rfl rfl rfl fun a hF=>?_
   refine E.opvg hF (r_move (hF.at 33 rfl)) (wanted_by rfl rfl (hF.at 0 rfl) rfl) rfl rfl rfl fun a hF=>?_
   by_cases hc9:3<r
   ·refine E.opvg hF (r_bin (hF.at 0 rfl) ev_c eg_scalar (bi_int (ic_gtr (c:=true) (dec_tt hc9)) (by simp))) (wanted_by rfl rfl (hF.at 1 rfl) rfl) rfl rfl rfl fun a hF=>?_
    refine E.opv hF (r_pick_f (hF.at 2 rfl) (hF.at 0 rfl)) rfl rfl rfl rfl fun a hF=>?_
    refine E.opv hF (r_assign (hF.at 0 rfl)) rfl rfl rfl rfl fun a hF=>?_
    refine E.nil ?_
    refine wp_cond_true (hF.at 0 rfl) ?_
    refine wp_seq ?_
    refine E.seq ?_
    refine E.opv hF (r_move (hF.at 16 rfl)) rfl rfl rfl rfl fun a hF=>?_
    refine E.opv hF (r_bin (hF.at 0 rfl) ev_c eg_scalar (bi_int (ic_eql (c:=true) (dec_tt (ckE_r hr))) (by simp))) rfl rfl rfl rfl fun a hF=>?_
    refine E.opv hF (r_move (hF.at 0 rfl)) rfl rfl rfl rfl fun a hF=>?_
    refine E.opvg hF (r_move (hF.at 10 rfl)) (wanted_by rfl rfl (hF.at 0 rfl) rfl) rfl rfl rfl fun a hF=>?_
    refine E.opvg hF (r_bin (hF.at 0 rfl) ev_c eg_scalar (bi_int (ic_eql (c:=true) (dec_tt (ckE_r hr))) (by simp))) (wanted_by rfl rfl (hF.at 1 rfl) rfl) rfl rfl rfl fun a hF=>?_
    refine E.opv hF (r_pick_t (hF.at 2 rfl) (hF.at 0 rfl)) rfl rfl rfl rfl fun a hF=>?_
    refine E.opv hF (r_move (hF.at 0 rfl)) rfl rfl rfl rfl fun a hF=>?_
    refine E.opvg hF (r_load (hF.at 24 rfl) (ld_all ty_SOD (st.bk 0 rfl) rfl)) (wanted_by rfl rfl (hF.at 0 rfl) rfl) rfl rfl rfl fun a hF=>?_
    refine E.opvg hF (r_build (by simp) (bd_SOD_ _)) (wanted_by rfl rfl (hF.at 1 rfl) rfl) rfl rfl rfl fun a hF=>?_
    refine E.opvg hF (r_bin (hF.at 1 rfl) (hF.at 0 rfl) eg_SOD (es_SOD (dec_tt (by simp)))) (wanted_by rfl rfl (hF.at 2 rfl) rfl) rfl rfl rfl fun a hF=>?_
    refine E.opv hF (r_pick_t (hF.at 3 rfl) (hF.at 0 rfl)) rfl rfl rfl rfl fun a hF=>?_
    refine E.opset (L':=[(6,.bool true),(52,.bool true),(51,.bool true),(50,.agg #[.int .i64 0,.int .i64 0,.int .i64 0]),(49,.agg #[.int .i64 0,.int .i64 0,.int .i64 0]),(48,.bool true),(47,.bool true),(46,.bool true),(45,.int .i64 (ckE r pa xb pc xd)),(44,.bool true),(43,.bool true),(42,.int .i64 (ckE r pa xb pc xd)),(35,.bool true),(41,.bool true),(40,.bool true),(39,.int .i64 r),(38,.bool false),(37,.bool false),(36,.int .i64 r),(10,.int .i64 (ckE r pa xb pc xd)),(9,.int .i64 0),(34,.int .i64 (ckE r pa xb pc xd)),(33,.int .i64 0),(28,.tuple #[.int .i64 0,.int .i64 (ckE r pa xb pc xd)]),(32,.tuple #[.int .i64 0,.int .i64 (ckE r pa xb pc xd)]),(31,.agg #[.int .i64 pa,.int .i64 xb,.int .i64 pc,.int .i64 xd]),(30,.agg #[.int .i64 0,.int .i64 1,.int .i64 1]),(29,.int .i64 r),(8,.int .i64 (ckE r pa xb pc xd)),(7,.pointer (some ⟨g7,0,none⟩)),(27,.int .i64 (ckE r pa xb pc xd)),(26,.agg #[.int .i64 0,.int .i64 0,.int .i64 0]),(21,.tuple #[.agg #[.int .i64 0,.int .i64 0,.int .i64 0],.int .i64 (ckE r pa xb pc xd)]),(25,.tuple #[.agg #[.int .i64 0,.int .i64 0,.int .i64 0],.int .i64 (ckE r pa xb pc xd)]),(24,.agg #[.int .i64 pa,.int .i64 xb,.int .i64 pc,.int .i64 xd]),(23,.int .i64 n),(22,.int .i64 r),(20,.pointer (some ⟨g5,2,none⟩)),(19,.pointer (some ⟨g5,0,none⟩)),(18,.int .i64 pc),(17,.int .i64 xc),(16,.pointer (some ⟨g5,2,none⟩)),(15,.int .i64 pa),(14,.int .i64 xa),(13,.pointer (some ⟨g5,0,none⟩)),(12,.bool false),(11,.bool true),(5,.pointer (some ⟨g5,0,none⟩)),(0,.int .i64 r),(1,.int .i64 n),(2,.agg #[.int .i64 xa,.int .i64 xb,.int .i64 xc,.int .i64 xd])]) hF (r_assign (hF.at 0 rfl)) rfl rfl rfl rfl fun a hF=>?_
    refine E.nil ?_
    refine wp_ret ?_
    have bel:=st.bel
    refine bodyPost_ret (res_tmp Tryz.results8 (hF.at 0 rfl)) hF.dfr ?_
    exact⟨rfl,bel⟩
   ·exfalso;omega
end Go.Proofs.YtnljadejcfgmaaaGreatDoor
