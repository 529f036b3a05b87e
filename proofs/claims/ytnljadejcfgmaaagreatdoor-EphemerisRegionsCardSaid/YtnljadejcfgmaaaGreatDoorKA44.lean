import Derived.Test.YtnljadejcfgmaaaGreatDoorKA23
import Derived.Test.YtnljadejcfgmaaaGreatDoorKA43
namespace Go.Proofs.YtnljadejcfgmaaaGreatDoor
open Go.RowKit
set_option maxRecDepth 100000
set_option linter.unusedVariables false
set_option maxHeartbeats 8000000
theorem regions_walk (y0 m0 wa wb wc wd:Int) (w:World) (hT:TabD w):
 Calls Tryz.prog 12 #[.int .i64 y0,.int .i64 m0,.int .i64 wa,.int .i64 wb,.int .i64 wc,.int .i64 wd] w (ValPost w (.bool true)):=by
 have hok0:=good_ok wa wb wc wd
 obtain⟨y,hy⟩:∃z:Int,(if 0≤y0 then y0%8000 else -(-y0%8000))=z:=⟨_,rfl⟩
 have hyb:=rem_bd (k:=y0) (n:=8000) (by decide)
 rw[hy] at hyb
 have hf0:=fo_bd (cf_ok 0 hok0) (cf_near 0 hok0) (y:=y) (m:=(1+(m0%256)%12)) (by omega) (by omega) (by omega) (by omega)
 have hf1:=fo_bd (cf_ok 1 hok0) (cf_near 1 hok0) (y:=y) (m:=(1+(m0%256)%12)) (by omega) (by omega) (by omega) (by omega)
 have hf2:=fo_bd (cf_ok 2 hok0) (cf_near 2 hok0) (y:=y) (m:=(1+(m0%256)%12)) (by omega) (by omega) (by omega) (by omega)
 have hrg:=so_regions hok0 y (1+(m0%256)%12)
 have st:=St.start w
 refine E.enter (nt:=56) (L:=[(0,.int .i64 y0),(1,.int .i64 m0),(2,.int .i64 wa),(3,.int .i64 wb),(4,.int .i64 wc),(5,.int .i64 wd)]) Tryz.func12 rfl rfl rfl (args_cons (i:=0) rfl (args_cons (i:=1) rfl (args_cons (i:=2) rfl (args_cons (i:=3) rfl (args_cons (i:=4) rfl (args_cons (i:=5) rfl args_nil)))))) ?_
 intro a hF
 refine wp_seq ?_
 refine E.seq ?_
 refine E.opv hF (r_assign ev_c) rfl rfl rfl rfl fun a hF=>?_
 refine E.nil ?_
 refine wp_seq ?_
 refine wp_seq ?_
 refine E.seq ?_
 refine S.callx st hF (rgc k49 map0) (live_any _) rfl rfl rfl rfl fun w1 a st hF=>?_
 refine E.opv hF (r_un (hF.at 0 rfl) (bn_not _ false rfl)) rfl rfl rfl rfl fun a hF=>?_
 refine E.nil ?_
 refine wp_cond_false (hF.at 0 rfl) ?_
 refine wp_skip ?_
 refine E.norm ?_
 refine wp_seq ?_
 refine E.seq ?_
 refine E.opv hF (r_move (hF.at 3 rfl)) rfl rfl rfl rfl fun a hF=>?_
 refine E.opv hF (r_bin (hF.at 0 rfl) ev_c eg_scalar (rem_y hy)) rfl rfl rfl rfl fun a hF=>?_
 refine E.opv hF (r_move (hF.at 6 rfl)) rfl rfl rfl rfl fun a hF=>?_
 refine E.opv hF (r_bin (hF.at 0 rfl) ev_c eg_scalar (id_and (n:=8) (by decide) (d:=256) (by decide) (by decide))) rfl rfl rfl rfl fun a hF=>?_
 refine E.opv hF (r_bin (hF.at 0 rfl) ev_c eg_scalar (id_remn (a:=m0%256) (b:=12) (by omega) (by omega))) rfl rfl rfl rfl fun a hF=>?_
 refine E.opv hF (r_bin ev_c (hF.at 0 rfl) eg_scalar (ia_add (by omega) (by omega))) rfl rfl rfl rfl fun a hF=>?_
 refine E.opset (L':=[(0,.int .i64 y),(24,.int .i64 (1+((m0%256)%12))),(23,.int .i64 ((m0%256)%12)),(22,.int .i64 (m0%256)),(21,.int .i64 m0),(20,.int .i64 y),(19,.int .i64 y0),(18,.bool false),(17,.bool true),(12,.bool false),(1,.int .i64 m0),(2,.int .i64 wa),(3,.int .i64 wb),(4,.int .i64 wc),(5,.int .i64 wd)]) hF (r_assign (hF.at 4 rfl)) rfl rfl rfl rfl fun a hF=>?_
 refine E.opset (L':=[(1,.int .i64 (1+((m0%256)%12))),(0,.int .i64 y),(24,.int .i64 (1+((m0%256)%12))),(23,.int .i64 ((m0%256)%12)),(22,.int .i64 (m0%256)),(21,.int .i64 m0),(20,.int .i64 y),(19,.int .i64 y0),(18,.bool false),(17,.bool true),(12,.bool false),(2,.int .i64 wa),(3,.int .i64 wb),(4,.int .i64 wc),(5,.int .i64 wd)]) hF (r_assign (hF.at 1 rfl)) rfl rfl rfl rfl fun a hF=>?_
 refine E.nil ?_
 refine wp_seq ?_
 refine E.seq ?_
 refine E.opv hF (r_move (hF.at 11 rfl)) rfl rfl rfl rfl fun a hF=>?_
 refine E.opv hF (r_move (hF.at 13 rfl)) rfl rfl rfl rfl fun a hF=>?_
 refine E.opv hF (r_move (hF.at 15 rfl)) rfl rfl rfl rfl fun a hF=>?_
 refine E.opv hF (r_move (hF.at 17 rfl)) rfl rfl rfl rfl fun a hF=>?_
 refine S.callx st hF (rgc k50 (map4 (hF.at 3 rfl) (hF.at 2 rfl) (hF.at 1 rfl) (hF.at 0 rfl))) (good_any wa wb wc wd _) rfl rfl rfl rfl fun w2 a st hF=>?_
 have hg1:=gB_bd wb
 have hg2:=gLat_bd wa wb
 have hg3:=gB_bd wd
 have hg4:=gLon_bd wc wd
 have hok1342:=good_ok wa wb wc wd
 refine S.new st hF 0 rfl ty_Plc rfl rfl rfl rfl rfl fun g13 w3 a st hF=>?_
 refine E.nil ?_
 refine wp_seq ?_
 refine E.seq ?_
 refine E.opv hF (r_move (hF.at 7 rfl)) rfl rfl rfl rfl fun a hF=>?_
 refine E.opv hF (r_move (hF.at 7 rfl)) rfl rfl rfl rfl fun a hF=>?_
 refine E.opv hF (r_load (hF.at 2 rfl) (ld_all ty_Plc (st.bk 0 rfl) rfl)) rfl rfl rfl rfl fun a hF=>?_
 refine S.callx st hF (rgc k29 (map4 ev_c (hF.at 2 rfl) (hF.at 1 rfl) (hF.at 0 rfl))) (soFirst_any 0 y (1+((m0%256)%12)) (gA 60 120 wa wb) (gB wb) (gA 180 360 wc wd) (gB wd) _ (hT.below st.bel) (by first|assumption|exact⟨by omega,by omega,by omega,by omega,by omega,by omega,by omega,by omega⟩) (by omega) (by omega) (by omega) (by omega) (by omega) (by omega)) rfl rfl rfl rfl fun w4 a st hF=>?_
 refine E.opv hF (r_assign (hF.at 0 rfl)) rfl rfl rfl rfl fun a hF=>?_
 refine E.nil ?_
 refine wp_seq ?_
 refine E.seq ?_
 refine E.opv hF (r_move (hF.at 12 rfl)) rfl rfl rfl rfl fun a hF=>?_
 refine E.opv hF (r_move (hF.at 12 rfl)) rfl rfl rfl rfl fun a hF=>?_
 refine E.opv hF (r_load (hF.at 7 rfl) (ld_all ty_Plc (st.bk 0 rfl) rfl)) rfl rfl rfl rfl fun a hF=>?_
 refine S.callx st hF (rgc k29 (map4 ev_c (hF.at 2 rfl) (hF.at 1 rfl) (hF.at 0 rfl))) (soFirst_any 1 y (1+((m0%256)%12)) (gA 60 120 wa wb) (gB wb) (gA 180 360 wc wd) (gB wd) _ (hT.below st.bel) (by first|assumption|exact⟨by omega,by omega,by omega,by omega,by omega,by omega,by omega,by omega⟩) (by omega) (by omega) (by omega) (by omega) (by omega) (by omega)) rfl rfl rfl rfl fun w5 a st hF=>?_
 refine E.opv hF (r_assign (hF.at 0 rfl)) rfl rfl rfl rfl fun a hF=>?_
 refine E.nil ?_
 refine wp_seq ?_
 refine E.seq ?_
 refine E.opv hF (r_move (hF.at 17 rfl)) rfl rfl rfl rfl fun a hF=>?_
 refine E.opv hF (r_move (hF.at 17 rfl)) rfl rfl rfl rfl fun a hF=>?_
 refine E.opv hF (r_load (hF.at 12 rfl) (ld_all ty_Plc (st.bk 0 rfl) rfl)) rfl rfl rfl rfl fun a hF=>?_
 refine S.callx st hF (rgc k29 (map4 ev_c (hF.at 2 rfl) (hF.at 1 rfl) (hF.at 0 rfl))) (soFirst_any 2 y (1+((m0%256)%12)) (gA 60 120 wa wb) (gB wb) (gA 180 360 wc wd) (gB wd) _ (hT.below st.bel) (by first|assumption|exact⟨by omega,by omega,by omega,by omega,by omega,by omega,by omega,by omega⟩) (by omega) (by omega) (by omega) (by omega) (by omega) (by omega)) rfl rfl rfl rfl fun w6 a st hF=>?_
 refine E.opv hF (r_assign (hF.at 0 rfl)) rfl rfl rfl rfl fun a hF=>?_
 refine E.nil ?_
 refine wp_seq ?_
 refine E.seq ?_
 refine E.opv hF (r_move (hF.at 10 rfl)) rfl rfl rfl rfl fun a hF=>?_
 refine E.opv hF (r_move (hF.at 6 rfl)) rfl rfl rfl rfl fun a hF=>?_
 refine E.opv hF (r_bin (hF.at 1 rfl) (hF.at 0 rfl) eg_scalar (bi_int (ic_leq (c:=true) (dec_tt (by omega))) (by simp))) rfl rfl rfl rfl fun a hF=>?_
 refine E.opv hF (r_move (hF.at 0 rfl)) rfl rfl rfl rfl fun a hF=>?_
 refine E.opvg hF (r_move (hF.at 9 rfl)) (wanted_by rfl rfl (hF.at 0 rfl) rfl) rfl rfl rfl fun a hF=>?_
 refine E.opvg hF (r_move (hF.at 5 rfl)) (wanted_by rfl rfl (hF.at 1 rfl) rfl) rfl rfl rfl fun a hF=>?_
 refine E.opvg hF (r_bin (hF.at 1 rfl) (hF.at 0 rfl) eg_scalar (bi_int (ic_leq (c:=true) (dec_tt (by omega))) (by simp))) (wanted_by rfl rfl (hF.at 2 rfl) rfl) rfl rfl rfl fun a hF=>?_
 refine E.opv hF (r_pick_t (hF.at 3 rfl) (hF.at 0 rfl)) rfl rfl rfl rfl fun a hF=>?_
 refine E.opv hF (r_move (hF.at 0 rfl)) rfl rfl rfl rfl fun a hF=>?_
 refine E.opvg hF (r_move (hF.at 9 rfl)) (wanted_by rfl rfl (hF.at 0 rfl) rfl) rfl rfl rfl fun a hF=>?_
 refine E.opvg hF (r_move (hF.at 20 rfl)) (wanted_by rfl rfl (hF.at 1 rfl) rfl) rfl rfl rfl fun a hF=>?_
 refine E.opvg hF (r_bin (hF.at 0 rfl) ev_c eg_scalar (ia_add (by omega) (by omega))) (wanted_by rfl rfl (hF.at 2 rfl) rfl) rfl rfl rfl fun a hF=>?_
 refine E.opvg hF (r_bin (hF.at 2 rfl) (hF.at 0 rfl) eg_scalar (bi_int (ic_leq (c:=true) (dec_tt (by omega))) (by simp))) (wanted_by rfl rfl (hF.at 3 rfl) rfl) rfl rfl rfl fun a hF=>?_
 refine E.opv hF (r_pick_t (hF.at 4 rfl) (hF.at 0 rfl)) rfl rfl rfl rfl fun a hF=>?_
 refine E.opset (L':=[(12,.bool true),(55,.bool true),(54,.bool true),(53,.int .i64 ((foD (criF 0 (gA 60 120 wa wb) (gB wb) (gA 180 360 wc wd) (gB wd)) y (1+((m0%256)%12)))+1)),(52,.int .i64 (foD (criF 0 (gA 60 120 wa wb) (gB wb) (gA 180 360 wc wd) (gB wd)) y (1+((m0%256)%12)))),(51,.int .i64 (foD (criF 2 (gA 60 120 wa wb) (gB wb) (gA 180 360 wc wd) (gB wd)) y (1+((m0%256)%12)))),(50,.bool true),(49,.bool true),(48,.bool true),(47,.int .i64 (foD (criF 2 (gA 60 120 wa wb) (gB wb) (gA 180 360 wc wd) (gB wd)) y (1+((m0%256)%12)))),(46,.int .i64 (foD (criF 1 (gA 60 120 wa wb) (gB wb) (gA 180 360 wc wd) (gB wd)) y (1+((m0%256)%12)))),(45,.bool true),(44,.bool true),(43,.int .i64 (foD (criF 1 (gA 60 120 wa wb) (gB wb) (gA 180 360 wc wd) (gB wd)) y (1+((m0%256)%12)))),(42,.int .i64 (foD (criF 0 (gA 60 120 wa wb) (gB wb) (gA 180 360 wc wd) (gB wd)) y (1+((m0%256)%12)))),(16,.int .i64 (foD (criF 2 (gA 60 120 wa wb) (gB wb) (gA 180 360 wc wd) (gB wd)) y (1+((m0%256)%12)))),(41,.int .i64 (foD (criF 2 (gA 60 120 wa wb) (gB wb) (gA 180 360 wc wd) (gB wd)) y (1+((m0%256)%12)))),(40,.agg #[.int .i64 (gA 60 120 wa wb),.int .i64 (gB wb),.int .i64 (gA 180 360 wc wd),.int .i64 (gB wd)]),(39,.int .i64 (1+((m0%256)%12))),(38,.int .i64 y),(15,.int .i64 (foD (criF 1 (gA 60 120 wa wb) (gB wb) (gA 180 360 wc wd) (gB wd)) y (1+((m0%256)%12)))),(37,.int .i64 (foD (criF 1 (gA 60 120 wa wb) (gB wb) (gA 180 360 wc wd) (gB wd)) y (1+((m0%256)%12)))),(36,.agg #[.int .i64 (gA 60 120 wa wb),.int .i64 (gB wb),.int .i64 (gA 180 360 wc wd),.int .i64 (gB wd)]),(35,.int .i64 (1+((m0%256)%12))),(34,.int .i64 y),(14,.int .i64 (foD (criF 0 (gA 60 120 wa wb) (gB wb) (gA 180 360 wc wd) (gB wd)) y (1+((m0%256)%12)))),(33,.int .i64 (foD (criF 0 (gA 60 120 wa wb) (gB wb) (gA 180 360 wc wd) (gB wd)) y (1+((m0%256)%12)))),(32,.agg #[.int .i64 (gA 60 120 wa wb),.int .i64 (gB wb),.int .i64 (gA 180 360 wc wd),.int .i64 (gB wd)]),(31,.int .i64 (1+((m0%256)%12))),(30,.int .i64 y),(13,.pointer (some ⟨g13,0,none⟩)),(29,.agg #[.int .i64 (gA 60 120 wa wb),.int .i64 (gB wb),.int .i64 (gA 180 360 wc wd),.int .i64 (gB wd)]),(28,.int .i64 wd),(27,.int .i64 wc),(26,.int .i64 wb),(25,.int .i64 wa),(1,.int .i64 (1+((m0%256)%12))),(0,.int .i64 y),(24,.int .i64 (1+((m0%256)%12))),(23,.int .i64 ((m0%256)%12)),(22,.int .i64 (m0%256)),(21,.int .i64 m0),(20,.int .i64 y),(19,.int .i64 y0),(18,.bool false),(17,.bool true),(2,.int .i64 wa),(3,.int .i64 wb),(4,.int .i64 wc),(5,.int .i64 wd)]) hF (r_assign (hF.at 0 rfl)) rfl rfl rfl rfl fun a hF=>?_
 refine E.nil ?_
 refine wp_ret ?_
 have bel:=st.bel
 refine bodyPost_ret (res_tmp Tryz.results12 (hF.at 0 rfl)) hF.dfr ?_
 exact⟨rfl,bel⟩
end Go.Proofs.YtnljadejcfgmaaaGreatDoor
