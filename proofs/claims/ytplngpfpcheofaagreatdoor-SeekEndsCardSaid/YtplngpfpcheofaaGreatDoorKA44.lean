import Derived.Test.YtplngpfpcheofaaGreatDoorKA38
import Derived.Test.YtplngpfpcheofaaGreatDoorKA42
namespace Go.Proofs.YtplngpfpcheofaaGreatDoor
open Go.RowKit
set_option maxRecDepth 100000
set_option linter.unusedVariables false
set_option maxHeartbeats 8000000
theorem seekEnds_walk (da db dc:Int) (w:World) (hT:TabD w):
 Calls Tryz.prog 7 #[.int .i64 da,.int .i64 db,.int .i64 dc] w (ValPost w (.bool true)):=by
 have hin0:=inD_bd da
 obtain⟨n,hn⟩:∃z,z=(4096*(inD da))+(db%4096):=⟨_,rfl⟩
 obtain⟨c,hc⟩:∃z,z=(dc%256)%6:=⟨_,rfl⟩
 have hc0:0≤c:=by omega
 have hc5:c≤5:=by omega
 by_cases h5:c=5
 ·have st:=St.start w
  refine E.enter (nt:=130) (L:=[(0,.int .i64 da),(1,.int .i64 db),(2,.int .i64 dc)]) Tryz.func7 rfl rfl rfl (args_cons (i:=0) rfl (args_cons (i:=1) rfl (args_cons (i:=2) rfl args_nil))) ?_
  intro a hF
  refine wp_seq ?_
  refine E.seq ?_
  refine E.opv hF (r_assign ev_c) rfl rfl rfl rfl fun a hF=>?_
  refine E.nil ?_
  refine wp_seq ?_
  refine wp_seq ?_
  refine E.seq ?_
  refine S.callx st hF (r_call Tryz.func10 en10.1 en10.2 map0) (awake15_any _) rfl rfl rfl rfl fun w1 a st hF=>?_
  refine E.opv hF (r_un (hF.at 0 rfl) (bn_not _ false rfl)) rfl rfl rfl rfl fun a hF=>?_
  refine E.nil ?_
  refine wp_cond_false (hF.at 0 rfl) ?_
  refine wp_skip ?_
  refine E.norm ?_
  refine wp_seq ?_
  refine E.seq ?_
  refine E.opv hF (r_move (hF.at 3 rfl)) rfl rfl rfl rfl fun a hF=>?_
  refine S.callx st hF (r_call Tryz.func11 en11.1 en11.2 (map1 (hF.at 0 rfl))) (inD_any da _) rfl rfl rfl rfl fun w2 a st hF=>?_
  have hin:=inD_bd da
  refine E.opv hF (r_bin ev_c (hF.at 0 rfl) eg_scalar (ia_mul (by omega) (by omega))) rfl rfl rfl rfl fun a hF=>?_
  refine E.opv hF (r_move (hF.at 7 rfl)) rfl rfl rfl rfl fun a hF=>?_
  refine E.opv hF (r_bin (hF.at 0 rfl) ev_c eg_scalar (id_and (n:=12) (by decide) (d:=4096) (by decide) (by decide))) rfl rfl rfl rfl fun a hF=>?_
  refine E.opv hF (r_bin (hF.at 2 rfl) (hF.at 0 rfl) eg_scalar (ia_add (by omega) (by omega))) rfl rfl rfl rfl fun a hF=>?_
  refine E.opv hF (r_assign (hF.at 0 rfl)) rfl rfl rfl rfl fun a hF=>?_
  replace hF:Fr 130 a [(7,.int .i64 n),(25,.int .i64 ((4096*(inD da))+(db%4096))),(24,.int .i64 (db%4096)),(23,.int .i64 db),(22,.int .i64 (4096*(inD da))),(21,.int .i64 (inD da)),(20,.int .i64 da),(19,.bool false),(18,.bool true),(6,.bool false),(0,.int .i64 da),(1,.int .i64 db),(2,.int .i64 dc)]:=by rw[hn];exact hF
  refine E.nil ?_
  refine wp_seq ?_
  refine E.seq ?_
  refine E.opv hF (r_move (hF.at 0 rfl)) rfl rfl rfl rfl fun a hF=>?_
  refine S.call st hF (r_call Tryz.func22 en22.1 en22.2 (map2 (hF.at 0 rfl) ev_c)) (rOf2_any (n) (4096) _ (by omega) (by omega) (by decide) (by decide)) (fun _ _ h=>h) Rq.cl rfl rfl rfl rfl fun vv4 w3 a st hF=>?_
  obtain⟨b6,ad6,n6,c6,ae6,m6,d6,rfl⟩:=Rq.form (st.f 0 rfl)
  refine E.opv hF (r_move (hF.at 2 rfl)) rfl rfl rfl rfl fun a hF=>?_
  refine S.call st hF (r_call Tryz.func16 en16.1 en16.2 (map2 (hF.at 0 rfl) ev_c)) (dOf_any (n) (4096) _ (by omega) (by omega) (by decide) (by decide)) (fun _ _ h=>h) Rr.cl rfl rfl rfl rfl fun vv8 w7 a st hF=>?_
  obtain⟨b10,ad10,n10,c10,ae10,m10,d10,rfl⟩:=Rr.form (st.f 0 rfl)
  refine S.alloc st hF ty_Rat rfl rfl fun g8 w11 a st hF=>?_
  refine S.alloc st hF ty_RRat rfl rfl fun g9 w12 a st hF=>?_
  refine S.sto st hF 1 rfl (hF.at 1 rfl) (hF.at 4 rfl) ty_Rat rfl rfl rfl rfl fun w13 a st hF=>?_
  refine S.sto st hF 0 rfl (hF.at 0 rfl) (hF.at 2 rfl) ty_RRat rfl rfl rfl rfl fun w14 a st hF=>?_
  refine E.nil ?_
  refine wp_seq ?_
  refine E.seq ?_
  refine E.opv hF (r_move (hF.at 18 rfl)) rfl rfl rfl rfl fun a hF=>?_
  refine E.opv hF (r_bin (hF.at 0 rfl) ev_c eg_scalar (id_and (n:=8) (by decide) (d:=256) (by decide) (by decide))) rfl rfl rfl rfl fun a hF=>?_
  refine E.opv hF (r_bin (hF.at 0 rfl) ev_c eg_scalar (id_remn (a:=dc%256) (b:=6) (by omega) (by omega))) rfl rfl rfl rfl fun a hF=>?_
  refine E.opset (L':=[(2,.int .i64 ((dc%256)%6)),(32,.int .i64 ((dc%256)%6)),(31,.int .i64 (dc%256)),(30,.int .i64 dc),(9,.pointer (some ⟨g9,0,none⟩)),(8,.pointer (some ⟨g8,0,none⟩)),(29,.agg #[.bool b10,.slice ad10 n10 c10,.slice ae10 m10 d10]),(28,.int .i64 n),(27,.agg #[.bool b6,.slice ad6 n6 c6,.slice ae6 m6 d6]),(26,.int .i64 n),(7,.int .i64 n),(25,.int .i64 ((4096*(inD da))+(db%4096))),(24,.int .i64 (db%4096)),(23,.int .i64 db),(22,.int .i64 (4096*(inD da))),(21,.int .i64 (inD da)),(20,.int .i64 da),(19,.bool false),(18,.bool true),(6,.bool false),(0,.int .i64 da),(1,.int .i64 db)]) hF (r_assign (hF.at 0 rfl)) rfl rfl rfl rfl fun a hF=>?_
  replace hF:Fr 130 a [(2,.int .i64 c),(32,.int .i64 ((dc%256)%6)),(31,.int .i64 (dc%256)),(30,.int .i64 dc),(9,.pointer (some ⟨g9,0,none⟩)),(8,.pointer (some ⟨g8,0,none⟩)),(29,.agg #[.bool b10,.slice ad10 n10 c10,.slice ae10 m10 d10]),(28,.int .i64 n),(27,.agg #[.bool b6,.slice ad6 n6 c6,.slice ae6 m6 d6]),(26,.int .i64 n),(7,.int .i64 n),(25,.int .i64 ((4096*(inD da))+(db%4096))),(24,.int .i64 (db%4096)),(23,.int .i64 db),(22,.int .i64 (4096*(inD da))),(21,.int .i64 (inD da)),(20,.int .i64 da),(19,.bool false),(18,.bool true),(6,.bool false),(0,.int .i64 da),(1,.int .i64 db)]:=by rw[hc];exact hF
  refine E.nil ?_
  refine wp_seq ?_
  refine E.seq ?_
  refine E.opv hF (r_move (hF.at 0 rfl)) rfl rfl rfl rfl fun a hF=>?_
  refine E.opv hF (r_load (hF.at 6 rfl) (ld_all ty_Rat (st.bk 1 rfl) rfl)) rfl rfl rfl rfl fun a hF=>?_
  refine S.call2 st hF (r_call Tryz.func31 en31.1 en31.2 (map2 (hF.at 1 rfl) (hF.at 0 rfl))) (skEndNo_any c _ _ _ (st.f 1 rfl) (by omega)) (fun _ _ h=>h) Rq.cl Rq.cl rfl rfl rfl rfl fun vv16 vv17 w15 a st hF=>?_
  obtain⟨b20,ad20,n20,c20,ae20,m20,d20,rfl⟩:=Rq.form (st.f 0 rfl)
  obtain⟨b21,ad21,n21,c21,ae21,m21,d21,rfl⟩:=Rq.form (st.f 1 rfl)
  refine E.opv hF (r_move (hF.at 0 rfl)) rfl rfl rfl rfl fun a hF=>?_
  refine E.opv hF (r_extract (v:= .agg #[.bool b20,.slice ad20 n20 c20,.slice ae20 m20 d20]) (hF.at 0 rfl) rfl) rfl rfl rfl rfl fun a hF=>?_
  refine E.opv hF (r_extract (v:= .agg #[.bool b21,.slice ad21 n21 c21,.slice ae21 m21 d21]) (hF.at 1 rfl) rfl) rfl rfl rfl rfl fun a hF=>?_
  refine S.alloc st hF ty_Rat rfl rfl fun g10 w22 a st hF=>?_
  refine S.alloc st hF ty_Rat rfl rfl fun g11 w23 a st hF=>?_
  refine S.sto st hF 1 rfl (hF.at 1 rfl) (hF.at 3 rfl) ty_Rat rfl rfl rfl rfl fun w24 a st hF=>?_
  refine S.sto st hF 0 rfl (hF.at 0 rfl) (hF.at 2 rfl) ty_Rat rfl rfl rfl rfl fun w25 a st hF=>?_
  refine E.nil ?_
  refine wp_seq ?_
  refine wp_seq ?_
  refine E.seq ?_
  refine E.opv hF (r_move (hF.at 8 rfl)) rfl rfl rfl rfl fun a hF=>?_
  refine E.opv hF (r_bin (hF.at 0 rfl) ev_c eg_scalar (bi_int (ic_eql (c:=true) (dec_tt (h5))) (by simp))) rfl rfl rfl rfl fun a hF=>?_
  refine E.nil ?_
  refine wp_cond_true (hF.at 0 rfl) ?_
  refine wp_seq ?_
  refine E.seq ?_
  refine E.opv hF (r_load (hF.at 3 rfl) (ld_all ty_Rat (st.bk 1 rfl) rfl)) rfl rfl rfl rfl fun a hF=>?_
  refine S.callx st hF (r_call Tryz.func32 en32.1 en32.2 (map1 (hF.at 0 rfl))) (rsgn_any _ (0) _ (st.f 0 rfl)) rfl rfl rfl rfl fun w26 a st hF=>?_
  refine E.opv hF (r_bin (hF.at 0 rfl) ev_c eg_scalar (bi_int (ic_eql (c:=true) (dec_tt (by decide))) (by simp))) rfl rfl rfl rfl fun a hF=>?_
  refine E.opv hF (r_move (hF.at 0 rfl)) rfl rfl rfl rfl fun a hF=>?_
  refine E.opvg hF (r_load (hF.at 6 rfl) (ld_all ty_Rat (st.bk 0 rfl) rfl)) (wanted_by rfl rfl (hF.at 0 rfl) rfl) rfl rfl rfl fun a hF=>?_
  refine S.callxg st hF (wanted_by rfl rfl (hF.at 1 rfl) rfl) (r_call Tryz.func32 en32.1 en32.2 (map1 (hF.at 0 rfl))) (rsgn_any _ (0) _ (st.f 1 rfl)) rfl rfl rfl fun w27 a st hF=>?_
  refine E.opvg hF (r_bin (hF.at 0 rfl) ev_c eg_scalar (bi_int (ic_eql (c:=true) (dec_tt (by decide))) (by simp))) (wanted_by rfl rfl (hF.at 2 rfl) rfl) rfl rfl rfl fun a hF=>?_
  refine E.opv hF (r_pick_t (hF.at 3 rfl) (hF.at 0 rfl)) rfl rfl rfl rfl fun a hF=>?_
  refine E.opv hF (r_move (hF.at 0 rfl)) rfl rfl rfl rfl fun a hF=>?_
  refine E.opvg hF (r_move (hF.at 19 rfl)) (wanted_by rfl rfl (hF.at 0 rfl) rfl) rfl rfl rfl fun a hF=>?_
  refine E.opvg hF (r_load (hF.at 25 rfl) (ld_all ty_Rat (st.bk 3 rfl) rfl)) (wanted_by rfl rfl (hF.at 1 rfl) rfl) rfl rfl rfl fun a hF=>?_
  refine S.callxg st hF (wanted_by rfl rfl (hF.at 2 rfl) rfl) (r_call Tryz.func33 en33.1 en33.2 (map2 (hF.at 1 rfl) (hF.at 0 rfl))) (skIndex_any c _ _ 2 _ (hT.below st.bel) (st.f 3 rfl) (RLim.up (rlim_mk2 (limz_64 (by omega) (by omega)) (limz_64 (by decide) (by decide))) 2 (by decide)) (by omega)) rfl rfl rfl fun w28 a st hF=>?_
  have hkx37796:=kX_bd c (((n:Int):Rat)/((4096:Int):Rat))
  refine E.opvg hF (r_bin (hF.at 0 rfl) ev_c eg_scalar (bi_int (ic_eql (c:=true) (dec_tt (kX_no (by omega) _))) (by simp))) (wanted_by rfl rfl (hF.at 3 rfl) rfl) rfl rfl rfl fun a hF=>?_
  refine E.opv hF (r_pick_t (hF.at 4 rfl) (hF.at 0 rfl)) rfl rfl rfl rfl fun a hF=>?_
  refine E.opset (L':=[(6,.bool true),(54,.bool true),(53,.bool true),(52,.int .i64 (kX c (((n:Int):Rat)/((4096:Int):Rat)))),(51,.agg #[.bool b6,.slice ad6 n6 c6,.slice ae6 m6 d6]),(50,.int .i64 c),(49,.bool true),(48,.bool true),(47,.bool true),(46,.int .i64 (sz (Rat.num (0)))),(45,.agg #[.bool b21,.slice ad21 n21 c21,.slice ae21 m21 d21]),(44,.bool true),(43,.bool true),(42,.int .i64 (sz (Rat.num (0)))),(41,.agg #[.bool b20,.slice ad20 n20 c20,.slice ae20 m20 d20]),(40,.bool true),(39,.int .i64 c),(11,.pointer (some ⟨g11,0,none⟩)),(10,.pointer (some ⟨g10,0,none⟩)),(38,.agg #[.bool b21,.slice ad21 n21 c21,.slice ae21 m21 d21]),(37,.agg #[.bool b20,.slice ad20 n20 c20,.slice ae20 m20 d20]),(33,.tuple #[.agg #[.bool b20,.slice ad20 n20 c20,.slice ae20 m20 d20],.agg #[.bool b21,.slice ad21 n21 c21,.slice ae21 m21 d21]]),(36,.tuple #[.agg #[.bool b20,.slice ad20 n20 c20,.slice ae20 m20 d20],.agg #[.bool b21,.slice ad21 n21 c21,.slice ae21 m21 d21]]),(35,.agg #[.bool b6,.slice ad6 n6 c6,.slice ae6 m6 d6]),(34,.int .i64 c),(2,.int .i64 c),(32,.int .i64 ((dc%256)%6)),(31,.int .i64 (dc%256)),(30,.int .i64 dc),(9,.pointer (some ⟨g9,0,none⟩)),(8,.pointer (some ⟨g8,0,none⟩)),(29,.agg #[.bool b10,.slice ad10 n10 c10,.slice ae10 m10 d10]),(28,.int .i64 n),(27,.agg #[.bool b6,.slice ad6 n6 c6,.slice ae6 m6 d6]),(26,.int .i64 n),(7,.int .i64 n),(25,.int .i64 ((4096*(inD da))+(db%4096))),(24,.int .i64 (db%4096)),(23,.int .i64 db),(22,.int .i64 (4096*(inD da))),(21,.int .i64 (inD da)),(20,.int .i64 da),(19,.bool false),(18,.bool true),(0,.int .i64 da),(1,.int .i64 db)]) hF (r_assign (hF.at 0 rfl)) rfl rfl rfl rfl fun a hF=>?_
  refine E.nil ?_
  refine wp_ret ?_
  have bel:=st.bel
  refine bodyPost_ret (res_tmp Tryz.results7 (hF.at 0 rfl)) hF.dfr ?_
  exact⟨rfl,bel⟩
 ·have hc1:c≤4:=by omega
  have st:=St.start w
  refine E.enter (nt:=130) (L:=[(0,.int .i64 da),(1,.int .i64 db),(2,.int .i64 dc)]) Tryz.func7 rfl rfl rfl (args_cons (i:=0) rfl (args_cons (i:=1) rfl (args_cons (i:=2) rfl args_nil))) ?_
  intro a hF
  refine wp_seq ?_
  refine E.seq ?_
  refine E.opv hF (r_assign ev_c) rfl rfl rfl rfl fun a hF=>?_
  refine E.nil ?_
  refine wp_seq ?_
  refine wp_seq ?_
  refine E.seq ?_
  refine S.callx st hF (r_call Tryz.func10 en10.1 en10.2 map0) (awake15_any _) rfl rfl rfl rfl fun w1 a st hF=>?_
  refine E.opv hF (r_un (hF.at 0 rfl) (bn_not _ false rfl)) rfl rfl rfl rfl fun a hF=>?_
  refine E.nil ?_
  refine wp_cond_false (hF.at 0 rfl) ?_
  refine wp_skip ?_
  refine E.norm ?_
  refine wp_seq ?_
  refine E.seq ?_
  refine E.opv hF (r_move (hF.at 3 rfl)) rfl rfl rfl rfl fun a hF=>?_
  refine S.callx st hF (r_call Tryz.func11 en11.1 en11.2 (map1 (hF.at 0 rfl))) (inD_any da _) rfl rfl rfl rfl fun w2 a st hF=>?_
  have hin:=inD_bd da
  refine E.opv hF (r_bin ev_c (hF.at 0 rfl) eg_scalar (ia_mul (by omega) (by omega))) rfl rfl rfl rfl fun a hF=>?_
  refine E.opv hF (r_move (hF.at 7 rfl)) rfl rfl rfl rfl fun a hF=>?_
  refine E.opv hF (r_bin (hF.at 0 rfl) ev_c eg_scalar (id_and (n:=12) (by decide) (d:=4096) (by decide) (by decide))) rfl rfl rfl rfl fun a hF=>?_
  refine E.opv hF (r_bin (hF.at 2 rfl) (hF.at 0 rfl) eg_scalar (ia_add (by omega) (by omega))) rfl rfl rfl rfl fun a hF=>?_
  refine E.opv hF (r_assign (hF.at 0 rfl)) rfl rfl rfl rfl fun a hF=>?_
  replace hF:Fr 130 a [(7,.int .i64 n),(25,.int .i64 ((4096*(inD da))+(db%4096))),(24,.int .i64 (db%4096)),(23,.int .i64 db),(22,.int .i64 (4096*(inD da))),(21,.int .i64 (inD da)),(20,.int .i64 da),(19,.bool false),(18,.bool true),(6,.bool false),(0,.int .i64 da),(1,.int .i64 db),(2,.int .i64 dc)]:=by rw[hn];exact hF
  refine E.nil ?_
  refine wp_seq ?_
  refine E.seq ?_
  refine E.opv hF (r_move (hF.at 0 rfl)) rfl rfl rfl rfl fun a hF=>?_
  refine S.call st hF (r_call Tryz.func22 en22.1 en22.2 (map2 (hF.at 0 rfl) ev_c)) (rOf2_any (n) (4096) _ (by omega) (by omega) (by decide) (by decide)) (fun _ _ h=>h) Rq.cl rfl rfl rfl rfl fun vv4 w3 a st hF=>?_
  obtain⟨b6,ad6,n6,c6,ae6,m6,d6,rfl⟩:=Rq.form (st.f 0 rfl)
  refine E.opv hF (r_move (hF.at 2 rfl)) rfl rfl rfl rfl fun a hF=>?_
  refine S.call st hF (r_call Tryz.func16 en16.1 en16.2 (map2 (hF.at 0 rfl) ev_c)) (dOf_any (n) (4096) _ (by omega) (by omega) (by decide) (by decide)) (fun _ _ h=>h) Rr.cl rfl rfl rfl rfl fun vv8 w7 a st hF=>?_
  obtain⟨b10,ad10,n10,c10,ae10,m10,d10,rfl⟩:=Rr.form (st.f 0 rfl)
  refine S.alloc st hF ty_Rat rfl rfl fun g8 w11 a st hF=>?_
  refine S.alloc st hF ty_RRat rfl rfl fun g9 w12 a st hF=>?_
  refine S.sto st hF 1 rfl (hF.at 1 rfl) (hF.at 4 rfl) ty_Rat rfl rfl rfl rfl fun w13 a st hF=>?_
  refine S.sto st hF 0 rfl (hF.at 0 rfl) (hF.at 2 rfl) ty_RRat rfl rfl rfl rfl fun w14 a st hF=>?_
  refine E.nil ?_
  refine wp_seq ?_
  refine E.seq ?_
  refine E.opv hF (r_move (hF.at 18 rfl)) rfl rfl rfl rfl fun a hF=>?_
  refine E.opv hF (r_bin (hF.at 0 rfl) ev_c eg_scalar (id_and (n:=8) (by decide) (d:=256) (by decide) (by decide))) rfl rfl rfl rfl fun a hF=>?_
  refine E.opv hF (r_bin (hF.at 0 rfl) ev_c eg_scalar (id_remn (a:=dc%256) (b:=6) (by omega) (by omega))) rfl rfl rfl rfl fun a hF=>?_
  refine E.opset (L':=[(2,.int .i64 ((dc%256)%6)),(32,.int .i64 ((dc%256)%6)),(31,.int .i64 (dc%256)),(30,.int .i64 dc),(9,.pointer (some ⟨g9,0,none⟩)),(8,.pointer (some ⟨g8,0,none⟩)),(29,.agg #[.bool b10,.slice ad10 n10 c10,.slice ae10 m10 d10]),(28,.int .i64 n),(27,.agg #[.bool b6,.slice ad6 n6 c6,.slice ae6 m6 d6]),(26,.int .i64 n),(7,.int .i64 n),(25,.int .i64 ((4096*(inD da))+(db%4096))),(24,.int .i64 (db%4096)),(23,.int .i64 db),(22,.int .i64 (4096*(inD da))),(21,.int .i64 (inD da)),(20,.int .i64 da),(19,.bool false),(18,.bool true),(6,.bool false),(0,.int .i64 da),(1,.int .i64 db)]) hF (r_assign (hF.at 0 rfl)) rfl rfl rfl rfl fun a hF=>?_
  replace hF:Fr 130 a [(2,.int .i64 c),(32,.int .i64 ((dc%256)%6)),(31,.int .i64 (dc%256)),(30,.int .i64 dc),(9,.pointer (some ⟨g9,0,none⟩)),(8,.pointer (some ⟨g8,0,none⟩)),(29,.agg #[.bool b10,.slice ad10 n10 c10,.slice ae10 m10 d10]),(28,.int .i64 n),(27,.agg #[.bool b6,.slice ad6 n6 c6,.slice ae6 m6 d6]),(26,.int .i64 n),(7,.int .i64 n),(25,.int .i64 ((4096*(inD da))+(db%4096))),(24,.int .i64 (db%4096)),(23,.int .i64 db),(22,.int .i64 (4096*(inD da))),(21,.int .i64 (inD da)),(20,.int .i64 da),(19,.bool false),(18,.bool true),(6,.bool false),(0,.int .i64 da),(1,.int .i64 db)]:=by rw[hc];exact hF
  refine E.nil ?_
  refine wp_seq ?_
  refine E.seq ?_
  refine E.opv hF (r_move (hF.at 0 rfl)) rfl rfl rfl rfl fun a hF=>?_
  refine E.opv hF (r_load (hF.at 6 rfl) (ld_all ty_Rat (st.bk 1 rfl) rfl)) rfl rfl rfl rfl fun a hF=>?_
  refine S.call2 st hF (r_call Tryz.func31 en31.1 en31.2 (map2 (hF.at 1 rfl) (hF.at 0 rfl))) (skEnd_any c _ _ 2 _ (hT.below st.bel) (st.f 1 rfl) (RLim.up (rlim_mk2 (limz_64 (by omega) (by omega)) (limz_64 (by decide) (by decide))) 2 (by decide)) (by omega) ⟨hc0,hc1⟩) (fun _ _ h=>h) Rq.cl Rq.cl rfl rfl rfl rfl fun vv16 vv17 w15 a st hF=>?_
  obtain⟨b20,ad20,n20,c20,ae20,m20,d20,rfl⟩:=Rq.form (st.f 0 rfl)
  obtain⟨b21,ad21,n21,c21,ae21,m21,d21,rfl⟩:=Rq.form (st.f 1 rfl)
  refine E.opv hF (r_move (hF.at 0 rfl)) rfl rfl rfl rfl fun a hF=>?_
  refine E.opv hF (r_extract (v:= .agg #[.bool b20,.slice ad20 n20 c20,.slice ae20 m20 d20]) (hF.at 0 rfl) rfl) rfl rfl rfl rfl fun a hF=>?_
  refine E.opv hF (r_extract (v:= .agg #[.bool b21,.slice ad21 n21 c21,.slice ae21 m21 d21]) (hF.at 1 rfl) rfl) rfl rfl rfl rfl fun a hF=>?_
  refine S.alloc st hF ty_Rat rfl rfl fun g10 w22 a st hF=>?_
  refine S.alloc st hF ty_Rat rfl rfl fun g11 w23 a st hF=>?_
  refine S.sto st hF 1 rfl (hF.at 1 rfl) (hF.at 3 rfl) ty_Rat rfl rfl rfl rfl fun w24 a st hF=>?_
  refine S.sto st hF 0 rfl (hF.at 0 rfl) (hF.at 2 rfl) ty_Rat rfl rfl rfl rfl fun w25 a st hF=>?_
  refine E.nil ?_
  refine wp_seq ?_
  refine wp_seq ?_
  refine E.seq ?_
  refine E.opv hF (r_move (hF.at 8 rfl)) rfl rfl rfl rfl fun a hF=>?_
  refine E.opv hF (r_bin (hF.at 0 rfl) ev_c eg_scalar (bi_int (ic_eql (c:=false) (dec_ff (h5))) (by simp))) rfl rfl rfl rfl fun a hF=>?_
  refine E.nil ?_
  refine wp_cond_false (hF.at 0 rfl) ?_
  refine wp_skip ?_
  refine E.norm ?_
  refine wp_seq ?_
  refine E.seq ?_
  refine E.opv hF (r_assign ev_c) rfl rfl rfl rfl fun a hF=>?_
  refine E.opv hF (r_assign ev_c) rfl rfl rfl rfl fun a hF=>?_
  refine E.nil ?_
  refine E.mid (I:=fun a wv=>Fr 130 a [(13,.int .i64 (kM c)),(12,.int .i64 (ov c)),(11,.pointer (some ⟨g11,0,none⟩)),(10,.pointer (some ⟨g10,0,none⟩)),(2,.int .i64 c),(9,.pointer (some ⟨g9,0,none⟩)),(8,.pointer (some ⟨g8,0,none⟩)),(6,.bool false)]∧St w wv [(g11,[.bool b21,.slice ad21 n21 c21,.slice ae21 m21 d21]),(g10,[.bool b20,.slice ad20 n20 c20,.slice ae20 m20 d20]),(g9,[.bool b10,.slice ad10 n10 c10,.slice ae10 m10 d10]),(g8,[.bool b6,.slice ad6 n6 c6,.slice ae6 m6 d6])] [fun w=>Rq w (.agg #[.bool b6,.slice ad6 n6 c6,.slice ae6 m6 d6]) (((n:Int):Rat)/((4096:Int):Rat)),fun w=>Rr w (.agg #[.bool b10,.slice ad10 n10 c10,.slice ae10 m10 d10]) (((n:Int):Rat)/((4096:Int):Rat)) (2),fun w=>Rq w (.agg #[.bool b20,.slice ad20 n20 c20,.slice ae20 m20 d20]) (endA c (((n:Int):Rat)/((4096:Int):Rat))),fun w=>Rq w (.agg #[.bool b21,.slice ad21 n21 c21,.slice ae21 m21 d21]) (endB c (((n:Int):Rat)/((4096:Int):Rat)))]) ?_ ?_
  ·refine wp_seq ?_
   refine E.seq ?_
   refine E.opv hF (r_move (hF.at 12 rfl)) rfl rfl rfl rfl fun a hF=>?_
   by_cases hc26:c=0
   ·refine E.opv hF (r_bin (hF.at 0 rfl) ev_c eg_scalar (bi_int (ic_eql (c:=true) (dec_tt hc26)) (by simp))) rfl rfl rfl rfl fun a hF=>?_
    refine E.nil ?_
    refine wp_cond_true (hF.at 0 rfl) ?_
    refine E.seq ?_
    refine E.opset (L':=[(12,.int .i64 1),(56,.bool true),(55,.int .i64 c),(13,.int .i64 6),(40,.bool false),(39,.int .i64 c),(11,.pointer (some ⟨g11,0,none⟩)),(10,.pointer (some ⟨g10,0,none⟩)),(38,.agg #[.bool b21,.slice ad21 n21 c21,.slice ae21 m21 d21]),(37,.agg #[.bool b20,.slice ad20 n20 c20,.slice ae20 m20 d20]),(33,.tuple #[.agg #[.bool b20,.slice ad20 n20 c20,.slice ae20 m20 d20],.agg #[.bool b21,.slice ad21 n21 c21,.slice ae21 m21 d21]]),(36,.tuple #[.agg #[.bool b20,.slice ad20 n20 c20,.slice ae20 m20 d20],.agg #[.bool b21,.slice ad21 n21 c21,.slice ae21 m21 d21]]),(35,.agg #[.bool b6,.slice ad6 n6 c6,.slice ae6 m6 d6]),(34,.int .i64 c),(2,.int .i64 c),(32,.int .i64 ((dc%256)%6)),(31,.int .i64 (dc%256)),(30,.int .i64 dc),(9,.pointer (some ⟨g9,0,none⟩)),(8,.pointer (some ⟨g8,0,none⟩)),(29,.agg #[.bool b10,.slice ad10 n10 c10,.slice ae10 m10 d10]),(28,.int .i64 n),(27,.agg #[.bool b6,.slice ad6 n6 c6,.slice ae6 m6 d6]),(26,.int .i64 n),(7,.int .i64 n),(25,.int .i64 ((4096*(inD da))+(db%4096))),(24,.int .i64 (db%4096)),(23,.int .i64 db),(22,.int .i64 (4096*(inD da))),(21,.int .i64 (inD da)),(20,.int .i64 da),(19,.bool false),(18,.bool true),(6,.bool false),(0,.int .i64 da),(1,.int .i64 db)]) hF (r_assign ev_c) rfl rfl rfl rfl fun a hF=>?_
    refine E.opset (L':=[(13,.int .i64 34),(12,.int .i64 1),(56,.bool true),(55,.int .i64 c),(40,.bool false),(39,.int .i64 c),(11,.pointer (some ⟨g11,0,none⟩)),(10,.pointer (some ⟨g10,0,none⟩)),(38,.agg #[.bool b21,.slice ad21 n21 c21,.slice ae21 m21 d21]),(37,.agg #[.bool b20,.slice ad20 n20 c20,.slice ae20 m20 d20]),(33,.tuple #[.agg #[.bool b20,.slice ad20 n20 c20,.slice ae20 m20 d20],.agg #[.bool b21,.slice ad21 n21 c21,.slice ae21 m21 d21]]),(36,.tuple #[.agg #[.bool b20,.slice ad20 n20 c20,.slice ae20 m20 d20],.agg #[.bool b21,.slice ad21 n21 c21,.slice ae21 m21 d21]]),(35,.agg #[.bool b6,.slice ad6 n6 c6,.slice ae6 m6 d6]),(34,.int .i64 c),(2,.int .i64 c),(32,.int .i64 ((dc%256)%6)),(31,.int .i64 (dc%256)),(30,.int .i64 dc),(9,.pointer (some ⟨g9,0,none⟩)),(8,.pointer (some ⟨g8,0,none⟩)),(29,.agg #[.bool b10,.slice ad10 n10 c10,.slice ae10 m10 d10]),(28,.int .i64 n),(27,.agg #[.bool b6,.slice ad6 n6 c6,.slice ae6 m6 d6]),(26,.int .i64 n),(7,.int .i64 n),(25,.int .i64 ((4096*(inD da))+(db%4096))),(24,.int .i64 (db%4096)),(23,.int .i64 db),(22,.int .i64 (4096*(inD da))),(21,.int .i64 (inD da)),(20,.int .i64 da),(19,.bool false),(18,.bool true),(6,.bool false),(0,.int .i64 da),(1,.int .i64 db)]) hF (r_assign ev_c) rfl rfl rfl rfl fun a hF=>?_
    refine E.nil0 ?_
    refine E.norm ?_
    exact⟨(by rw[show ov c=1 from if_pos hc26,show kM c=34 from if_pos hc26];exact Fr.pick (L':=[(13,.int .i64 34),(12,.int .i64 1),(11,.pointer (some ⟨g11,0,none⟩)),(10,.pointer (some ⟨g10,0,none⟩)),(2,.int .i64 c),(9,.pointer (some ⟨g9,0,none⟩)),(8,.pointer (some ⟨g8,0,none⟩)),(6,.bool false)]) hF [0,1,6,7,14,18,19,33] rfl),st.pick [0,1,2,3] [3,2,0,1] rfl rfl (by decide)⟩
   ·refine E.opv hF (r_bin (hF.at 0 rfl) ev_c eg_scalar (bi_int (ic_eql (c:=false) (dec_ff hc26)) (by simp))) rfl rfl rfl rfl fun a hF=>?_
    refine E.nil ?_
    refine wp_cond_false (hF.at 0 rfl) ?_
    refine wp_skip ?_
    refine E.norm ?_
    exact⟨(by rw[show ov c=4 from if_neg hc26,show kM c=6 from if_neg hc26];exact Fr.pick (L':=[(13,.int .i64 6),(12,.int .i64 4),(11,.pointer (some ⟨g11,0,none⟩)),(10,.pointer (some ⟨g10,0,none⟩)),(2,.int .i64 c),(9,.pointer (some ⟨g9,0,none⟩)),(8,.pointer (some ⟨g8,0,none⟩)),(6,.bool false)]) hF [2,3,6,7,14,18,19,33] rfl),st.pick [0,1,2,3] [3,2,0,1] rfl rfl (by decide)⟩
  ·rintro a w27 ⟨hF,st⟩
   have hov:=ov_bd c
   have hkp:=kP_bd hc0 hc1
   refine wp_seq ?_
   refine E.seq ?_
   refine E.opv hF (r_move (hF.at 4 rfl)) rfl rfl rfl rfl fun a hF=>?_
   refine E.opv hF (r_load (hF.at 6 rfl) (ld_all ty_RRat (st.bk 2 rfl) rfl)) rfl rfl rfl rfl fun a hF=>?_
   refine E.opv hF (r_move (hF.at 3 rfl)) rfl rfl rfl rfl fun a hF=>?_
   refine E.opv hF (r_move (hF.at 3 rfl)) rfl rfl rfl rfl fun a hF=>?_
   refine S.callx st hF (r_call Tryz.func34 en34.1 en34.2 (map4s (hF.at 3 rfl) (hF.at 2 rfl) (hF.at 1 rfl) (hF.at 0 rfl))) (rPiece15_any c _ _ 2 2 _ (st.f 1 rfl) (RLim.up (rlim_mk2 (limz_64 (by omega) (by omega)) (limz_64 (by decide) (by decide))) 2 (by decide)) (by omega) (by omega) (by omega) hc0 hc1 (fun z h0 h1=>(pcs_lim2 (by omega) (by omega) h0 h1).up _ (by decide))) rfl rfl rfl rfl fun w28 a st hF=>?_
   have hps:=(piece_spec hc0 hc1 (((n:Int):Rat)/((4096:Int):Rat))).1
   have hkm:=kM_bd c
   refine E.opv hF (r_assign (hF.at 0 rfl)) rfl rfl rfl rfl fun a hF=>?_
   refine E.nil ?_
   refine wp_seq ?_
   refine E.drawn 13 mixed hF [62,63,64,65,66,67,68,69,70,71,72,15,16] [(fun _ v=>v= .agg #[.bool b10,.slice ad10 n10 c10,.slice ae10 m10 d10]),(fun _ v=>v= .int .i64 ((pieceV c (((n:Int):Rat)/((4096:Int):Rat)):Nat):Int)),(fun _ v=>v= .int .i64 (ov c)),(fun w v=>Rr w v (((((pieceV c (((n:Int):Rat)/((4096:Int):Rat)):Nat):Int):Int):Rat)/((ov c:Int):Rat)) (2)),(fun w v=>Rr w v (pcs c (((n:Int):Rat)/((4096:Int):Rat)) (((pieceV c (((n:Int):Rat)/((4096:Int):Rat)):Nat):Int))) ((2+2+1))),(fun _ v=>v= .agg #[.bool b10,.slice ad10 n10 c10,.slice ae10 m10 d10]),(fun _ v=>v= .int .i64 ((pieceV c (((n:Int):Rat)/((4096:Int):Rat)):Nat):Int)),(fun _ v=>v= .int .i64 (((pieceV c (((n:Int):Rat)/((4096:Int):Rat)):Nat):Int)+1)),(fun _ v=>v= .int .i64 (ov c)),(fun w v=>Rr w v (((((pieceV c (((n:Int):Rat)/((4096:Int):Rat)):Nat):Int)+1:Int):Rat)/((ov c:Int):Rat)) (2)),(fun w v=>Rr w v (pcs c (((n:Int):Rat)/((4096:Int):Rat)) (((pieceV c (((n:Int):Rat)/((4096:Int):Rat)):Nat):Int)+1)) ((2+2+1))),(fun w v=>∃g,v= .pointer (some ⟨g,0,none⟩)∧w28.heap.size≤g∧Own w g [.bool false,.slice none 0 0,.slice none 0 0]),(fun w v=>∃g,v= .pointer (some ⟨g,0,none⟩)∧w28.heap.size≤g∧Own w g [.bool false,.slice none 0 0,.slice none 0 0])] [11,12] (by decide+kernel) (by decide+kernel) rfl rfl rfl ⟨(Mb.eq _),(Mb.eq _),(Mb.eq _),(fun _ _ _ h hb=>h.below hb),(fun _ _ _ h hb=>h.below hb),(Mb.eq _),(Mb.eq _),(Mb.eq _),(Mb.eq _),(fun _ _ _ h hb=>h.below hb),(fun _ _ _ h hb=>h.below hb),(fun _ _ _ ⟨g,e,l,o⟩ hb=>⟨g,e,l,o.below hb⟩),(fun _ _ _ ⟨g,e,l,o⟩ hb=>⟨g,e,l,o.below hb⟩),trivial⟩ ⟨fun _ _ ⟨g,e,_,o⟩=>⟨g,e,o.lt⟩,⟨fun _ _ ⟨g,e,_,o⟩=>⟨g,e,o.lt⟩,trivial⟩⟩ ⟨?_,?_,?_,?_,?_,?_,?_,?_,?_,?_,?_,?_,?_,trivial⟩ ?_
   ·intro a' w' hF' hb hd
    exact dv0 (r_load (hF'.at 11 rfl) (ld_all ty_RRat ((st.bk 2 rfl).below hb) rfl)) rfl rfl rfl
   ·intro a' w' hF' hb hd
    exact dv0 (r_move (hF'.at 0 rfl)) rfl rfl rfl
   ·intro a' w' hF' hb hd
    exact dv0 (r_move (hF'.at 7 rfl)) rfl rfl rfl
   ·intro a' w' hF' hb hd
    have e63:=sHe hd 0 63 rfl rfl rfl rfl
    have e64:=sHe hd 1 64 rfl rfl rfl rfl
    exact dc0 (r_call Tryz.func16 en16.1 en16.2 (map2 e63 e64)) (dOf_any (((pieceV c (((n:Int):Rat)/((4096:Int):Rat)):Nat):Int)) (ov c) _ (by omega) (by omega) (by omega) (by omega)) rfl rfl
   ·intro a' w' hF' hb hd
    have e62:=sHe hd 0 62 rfl rfl rfl rfl
    obtain⟨v65_0,e65,h65_1⟩:=sH hd 1 65 rfl rfl rfl rfl
    exact dc0 (r_call Tryz.func35 en35.1 en35.2 (map2 e62 e65)) (dAdd2_any _ _ _ (((((pieceV c _:Nat):Int):Int):Rat)/((ov c:Int):Rat)) 2 2 _ ((st.f 1 rfl).below hb) h65_1 (by omega) (by omega) (by omega) (by omega)) rfl rfl
   ·intro a' w' hF' hb hd
    exact dv0 (r_load (hF'.at 11 rfl) (ld_all ty_RRat ((st.bk 2 rfl).below hb) rfl)) rfl rfl rfl
   ·intro a' w' hF' hb hd
    exact dv0 (r_move (hF'.at 0 rfl)) rfl rfl rfl
   ·intro a' w' hF' hb hd
    have e68:=sHe hd 0 68 rfl rfl rfl rfl
    exact dv0 (r_bin e68 ev_c eg_scalar (ia_add (by omega) (by omega))) rfl rfl rfl
   ·intro a' w' hF' hb hd
    exact dv0 (r_move (hF'.at 7 rfl)) rfl rfl rfl
   ·intro a' w' hF' hb hd
    have e69:=sHe hd 0 69 rfl rfl rfl rfl
    have e70:=sHe hd 1 70 rfl rfl rfl rfl
    exact dc0 (r_call Tryz.func16 en16.1 en16.2 (map2 e69 e70)) (dOf_any (((pieceV c (((n:Int):Rat)/((4096:Int):Rat)):Nat):Int)+1) (ov c) _ (by omega) (by omega) (by omega) (by omega)) rfl rfl
   ·intro a' w' hF' hb hd
    have e67:=sHe hd 0 67 rfl rfl rfl rfl
    obtain⟨v71_0,e71,h71_1⟩:=sH hd 1 71 rfl rfl rfl rfl
    exact dc0 (r_call Tryz.func35 en35.1 en35.2 (map2 e67 e71)) (dAdd2_any _ _ _ (((((pieceV c _:Nat):Int)+1:Int):Rat)/((ov c:Int):Rat)) 2 2 _ ((st.f 1 rfl).below hb) h71_1 (by omega) (by omega) (by omega) (by omega)) rfl rfl
   ·intro a' w' hF' hb hd
    exact da0 ty_RRat rfl hb.size rfl
   ·intro a' w' hF' hb hd
    exact da0 ty_RRat rfl hb.size rfl
   intro a w29 hF bb hall hne
   have s0:=st
   replace st:=st.to bb
   obtain⟨vv30,e66,hh31⟩:=sS hall 4 66 rfl rfl
   replace st:=st.add hh31 (Rr.cl _)
   clear hh31
   obtain⟨vv32,e72,hh33⟩:=sS hall 10 72 rfl rfl
   replace st:=st.add hh33 (Rr.cl _)
   clear hh33
   obtain⟨_,e15,g15,rfl,ge15,o15⟩:=sS hall 11 15 rfl rfl
   replace st:=st.push o15.blk (Nat.le_trans s0.bel.size ge15) (s0.ne ge15)
   clear o15
   obtain⟨_,e16,g16,rfl,ge16,o16⟩:=sS hall 12 16 rfl rfl
   replace st:=st.push o16.blk (Nat.le_trans s0.bel.size ge16) (ne_cons (fun(e:g15=g16)=>hne 11 12 15 16 rfl rfl (by decide) rfl rfl (by rw[e15,e16,e])) (s0.ne ge16))
   clear o16
   clear hall hne bb s0
   obtain⟨b34,ad34,n34,c34,ae34,m34,d34,rfl⟩:=Rr.form (st.f 1 rfl)
   replace hF:=hF.add e66
   clear e66
   obtain⟨b35,ad35,n35,c35,ae35,m35,d35,rfl⟩:=Rr.form (st.f 0 rfl)
   replace hF:=hF.add e72
   clear e72
   replace hF:=hF.add e15
   clear e15
   replace hF:=hF.add e16
   clear e16
   refine S.sto st hF 1 rfl (hF.at 1 rfl) (hF.at 3 rfl) ty_RRat rfl rfl rfl rfl fun w36 a st hF=>?_
   refine S.sto st hF 0 rfl (hF.at 0 rfl) (hF.at 2 rfl) ty_RRat rfl rfl rfl rfl fun w37 a st hF=>?_
   refine E.nil ?_
   refine wp_seq ?_
   refine E.seq ?_
   refine E.opv hF (r_move (hF.at 14 rfl)) rfl rfl rfl rfl fun a hF=>?_
   refine E.opv hF (r_load (hF.at 16 rfl) (ld_all ty_RRat (st.bk 4 rfl) rfl)) rfl rfl rfl rfl fun a hF=>?_
   refine S.callx st hF (r_call Tryz.func26 en26.1 en26.2 (map2 (hF.at 1 rfl) (hF.at 0 rfl))) (rIndex15_any c _ _ 2 2 _ (st.f 3 rfl) (RLim.up (rlim_mk2 (limz_64 (by omega) (by omega)) (limz_64 (by decide) (by decide))) 2 (by decide)) (by omega) (by omega) (by omega)) rfl rfl rfl rfl fun w38 a st hF=>?_
   have hkd37796:=kX_bd c (((n:Int):Rat)/((4096:Int):Rat))
   refine E.opv hF (r_assign (hF.at 0 rfl)) rfl rfl rfl rfl fun a hF=>?_
   refine E.nil ?_
   refine wp_seq ?_
   refine wp_seq ?_
   refine E.drawn 23 mixed hF [76,77,78,79,80,81,82,83,84,85,86,87,88,89,90,91,92,93,94,95,96,97,98] [(fun _ v=>v= .int .i64 c),(fun _ v=>v= .agg #[.bool b6,.slice ad6 n6 c6,.slice ae6 m6 d6]),(fun _ v=>v= .int .i64 (kX c (((n:Int):Rat)/((4096:Int):Rat)))),(fun _ v=>v= .int .i64 (kX c (((n:Int):Rat)/((4096:Int):Rat)))),(fun _ v=>v= .bool false),(fun _ v=>v= .bool false),(fun _ v=>v= .int .i64 ((pieceV c (((n:Int):Rat)/((4096:Int):Rat)):Nat):Int)),(fun _ v=>v= .int .i64 (kM c)),(fun _ v=>v= .bool false),(fun _ v=>v= .bool false),(fun _ v=>v= .bool false),(fun _ v=>v= .agg #[.bool b20,.slice ad20 n20 c20,.slice ae20 m20 d20]),(fun _ v=>v= .agg #[.bool b21,.slice ad21 n21 c21,.slice ae21 m21 d21]),(fun _ v=>v= .agg #[.bool b34,.slice ad34 n34 c34,.slice ae34 m34 d34]),(fun _ v=>v= .agg #[.bool b35,.slice ad35 n35 c35,.slice ae35 m35 d35]),(fun _ v=>v= .agg #[.bool b34,.slice ad34 n34 c34,.slice ae34 m34 d34]),(fun _ v=>v= .agg #[.bool b35,.slice ad35 n35 c35,.slice ae35 m35 d35]),(fun _ v=>v= .int .i64 c),(fun _ v=>v= .int .i64 (kX c (((n:Int):Rat)/((4096:Int):Rat)))),(fun _ v=>v= .int .i64 (hlv (notX c (kX c (((n:Int):Rat)/((4096:Int):Rat)))) (pcs c (((n:Int):Rat)/((4096:Int):Rat)) (((pieceV c (((n:Int):Rat)/((4096:Int):Rat)):Nat):Int))) (pcs c (((n:Int):Rat)/((4096:Int):Rat)) (((pieceV c (((n:Int):Rat)/((4096:Int):Rat)):Nat):Int)+1)) 21)),(fun _ v=>v= .bool true),(fun _ v=>v= .bool false),(fun _ v=>v= .bool false)] [] (by decide+kernel) (by decide+kernel) rfl rfl rfl ⟨(Mb.eq _),(Mb.eq _),(Mb.eq _),(Mb.eq _),(Mb.eq _),(Mb.eq _),(Mb.eq _),(Mb.eq _),(Mb.eq _),(Mb.eq _),(Mb.eq _),(Mb.eq _),(Mb.eq _),(Mb.eq _),(Mb.eq _),(Mb.eq _),(Mb.eq _),(Mb.eq _),(Mb.eq _),(Mb.eq _),(Mb.eq _),(Mb.eq _),(Mb.eq _),trivial⟩ trivial ⟨?_,?_,?_,?_,?_,?_,?_,?_,?_,?_,?_,?_,?_,?_,?_,?_,?_,?_,?_,?_,?_,?_,?_,trivial⟩ ?_
   ·intro a' w' hF' hb hd
    exact dv0 (r_move (hF'.at 18 rfl)) rfl rfl rfl
   ·intro a' w' hF' hb hd
    exact dv0 (r_load (hF'.at 20 rfl) (ld_all ty_Rat ((st.bk 5 rfl).below hb) rfl)) rfl rfl rfl
   ·intro a' w' hF' hb hd
    have e76:=sHe hd 0 76 rfl rfl rfl rfl
    have e77:=sHe hd 1 77 rfl rfl rfl rfl
    exact dcx0 (r_call Tryz.func33 en33.1 en33.2 (map2 e76 e77)) (skIndex_any c _ _ 2 _ (hT.below (below_to st.bel hb)) ((st.f 2 rfl).below hb) (RLim.up (rlim_mk2 (limz_64 (by omega) (by omega)) (limz_64 (by decide) (by decide))) 2 (by decide)) (by omega)) (fun _=>rfl) rfl rfl
   ·intro a' w' hF' hb hd
    exact dv0 (r_move (hF'.at 0 rfl)) rfl rfl rfl
   ·intro a' w' hF' hb hd
    have e78:=sHe hd 0 78 rfl rfl rfl rfl
    have hkx37796:=kX_bd c (((n:Int):Rat)/((4096:Int):Rat))
    have e79:=sHe hd 1 79 rfl rfl rfl rfl
    exact dv0 (r_bin e78 e79 eg_scalar (bi_int (ic_neq (c:=false) (by simp)) (by simp))) rfl rfl rfl
   ·intro a' w' hF' hb hd
    have e80:=sHe hd 0 80 rfl rfl rfl rfl
    exact dv0 (r_move e80) rfl rfl rfl
   ·intro a' w' hF' hb hd
    have e81:=sHe hd 0 81 rfl rfl rfl rfl
    exact dv1 (wanted_by rfl rfl e81 rfl) (r_move (hF'.at 8 rfl)) rfl rfl
   ·intro a' w' hF' hb hd
    have e81:=sHe hd 0 81 rfl rfl rfl rfl
    exact dv1 (wanted_by rfl rfl e81 rfl) (r_move (hF'.at 14 rfl)) rfl rfl
   ·intro a' w' hF' hb hd
    have e81:=sHe hd 2 81 rfl rfl rfl rfl
    have e82:=sHe hd 0 82 rfl rfl rfl rfl
    have e83:=sHe hd 1 83 rfl rfl rfl rfl
    exact dv1 (wanted_by rfl rfl e81 rfl) (r_bin e82 e83 eg_scalar (bi_int (ic_geq (c:=false) (dec_ff (by omega))) (by simp))) rfl rfl
   ·intro a' w' hF' hb hd
    have e81:=sHe hd 0 81 rfl rfl rfl rfl
    have e84:=sHe hd 1 84 rfl rfl rfl rfl
    exact dv0 (r_pick_f e81 e84) rfl rfl rfl
   ·intro a' w' hF' hb hd
    have e85:=sHe hd 0 85 rfl rfl rfl rfl
    exact dv0 (r_move e85) rfl rfl rfl
   ·intro a' w' hF' hb hd
    have e86:=sHe hd 0 86 rfl rfl rfl rfl
    exact dv1 (wanted_by rfl rfl e86 rfl) (r_load (hF'.at 17 rfl) (ld_all ty_Rat ((st.bk 3 rfl).below hb) rfl)) rfl rfl
   ·intro a' w' hF' hb hd
    have e86:=sHe hd 0 86 rfl rfl rfl rfl
    exact dv1 (wanted_by rfl rfl e86 rfl) (r_load (hF'.at 16 rfl) (ld_all ty_Rat ((st.bk 2 rfl).below hb) rfl)) rfl rfl
   ·intro a' w' hF' hb hd
    have e86:=sHe hd 0 86 rfl rfl rfl rfl
    exact dv1 (wanted_by rfl rfl e86 rfl) (r_load (hF'.at 5 rfl) (ld_all ty_RRat ((st.bk 1 rfl).below hb) rfl)) rfl rfl
   ·intro a' w' hF' hb hd
    have e86:=sHe hd 0 86 rfl rfl rfl rfl
    exact dv1 (wanted_by rfl rfl e86 rfl) (r_load (hF'.at 4 rfl) (ld_all ty_RRat ((st.bk 0 rfl).below hb) rfl)) rfl rfl
   ·intro a' w' hF' hb hd
    have e86:=sHe hd 0 86 rfl rfl rfl rfl
    exact dv1 (wanted_by rfl rfl e86 rfl) (r_load (hF'.at 5 rfl) (ld_all ty_RRat ((st.bk 1 rfl).below hb) rfl)) rfl rfl
   ·intro a' w' hF' hb hd
    have e86:=sHe hd 0 86 rfl rfl rfl rfl
    exact dv1 (wanted_by rfl rfl e86 rfl) (r_load (hF'.at 4 rfl) (ld_all ty_RRat ((st.bk 0 rfl).below hb) rfl)) rfl rfl
   ·intro a' w' hF' hb hd
    have e86:=sHe hd 0 86 rfl rfl rfl rfl
    exact dv1 (wanted_by rfl rfl e86 rfl) (r_move (hF'.at 18 rfl)) rfl rfl
   ·intro a' w' hF' hb hd
    have e86:=sHe hd 0 86 rfl rfl rfl rfl
    exact dv1 (wanted_by rfl rfl e86 rfl) (r_move (hF'.at 0 rfl)) rfl rfl
   ·intro a' w' hF' hb hd
    have e86:=sHe hd 4 86 rfl rfl rfl rfl
    have e91:=sHe hd 0 91 rfl rfl rfl rfl
    have e92:=sHe hd 1 92 rfl rfl rfl rfl
    have e93:=sHe hd 2 93 rfl rfl rfl rfl
    have e94:=sHe hd 3 94 rfl rfl rfl rfl
    exact dcx1 (wanted_by rfl rfl e86 rfl) (r_call Tryz.func29 en29.1 en29.2 (map4s e91 e92 e93 e94)) (rWhere15_any _ _ _ _ (2+2+1) (2+2+1) c (kX c (((n:Int):Rat)/((4096:Int):Rat))) _ ((st.f 1 rfl).below hb) ((st.f 0 rfl).below hb) (by omega) (by omega) (by omega) (by omega) (by omega) (fun z h0 h1=>(at_lim2 (by omega) (by omega) (by omega) (by omega) h0 h1).up _ (by decide))) (fun _=>rfl) rfl
   ·intro a' w' hF' hb hd
    have e86:=sHe hd 6 86 rfl rfl rfl rfl
    have e87:=sHe hd 0 87 rfl rfl rfl rfl
    have e88:=sHe hd 1 88 rfl rfl rfl rfl
    have e89:=sHe hd 2 89 rfl rfl rfl rfl
    have e90:=sHe hd 3 90 rfl rfl rfl rfl
    have e95:=sHe hd 4 95 rfl rfl rfl rfl
    have hwh15:=hlv_bd (notX c (kX c (((n:Int):Rat)/((4096:Int):Rat)))) (pcs c (((n:Int):Rat)/((4096:Int):Rat)) (((pieceV c (((n:Int):Rat)/((4096:Int):Rat)):Nat):Int))) (pcs c (((n:Int):Rat)/((4096:Int):Rat)) (((pieceV c (((n:Int):Rat)/((4096:Int):Rat)):Nat):Int)+1)) 21
    exact dcx1 (wanted_by rfl rfl e86 rfl) (r_call Tryz.func15 en15.1 en15.2 (map6 e87 e88 e89 e90 e95 ev_c)) (lIs15_any _ _ _ _ _ _ _ _ (3*2+17) (3*2+17) (2+2+1) (2+2+1) (hlv (notX c (kX c (((n:Int):Rat)/((4096:Int):Rat)))) _ _ 21) 2097152 _ ((st.f 4 rfl).below hb) ((st.f 5 rfl).below hb) ((st.f 1 rfl).below hb) ((st.f 0 rfl).below hb) (endA_lim (c:=c) (RLim.up (rlim_mk2 (limz_64 (by omega) (by omega)) (limz_64 (by decide) (by decide))) 2 (by decide))) (endB_lim (c:=c) (RLim.up (rlim_mk2 (limz_64 (by omega) (by omega)) (limz_64 (by decide) (by decide))) 2 (by decide))) (endA_at hc0 hc1 _) (endB_at hc0 hc1 _) (by omega) (by omega) (by omega) (by omega) (by omega) (by omega) (by omega) (by omega) (by omega) (by omega)) (fun _=>rfl) rfl
   ·intro a' w' hF' hb hd
    have e86:=sHe hd 1 86 rfl rfl rfl rfl
    have e96:=sHe hd 0 96 rfl rfl rfl rfl
    exact dv1 (wanted_by rfl rfl e86 rfl) (r_un e96 (bn_not _ false rfl)) rfl rfl
   ·intro a' w' hF' hb hd
    have e86:=sHe hd 0 86 rfl rfl rfl rfl
    have e97:=sHe hd 1 97 rfl rfl rfl rfl
    exact dv0 (r_pick_f e86 e97) rfl rfl rfl
   intro a w39 hF bb hall hne
   replace st:=st.to bb
   have e98:=sSe hall 22 98 rfl rfl
   clear hall hne bb
   replace hF:=hF.add e98
   clear e98
   refine E.nil ?_
   refine wp_cond_false (hF.at 0 rfl) ?_
   refine wp_skip ?_
   refine E.norm ?_
   refine wp_seq ?_
   refine E.seq ?_
   refine E.opv hF (r_move (hF.at 19 rfl)) rfl rfl rfl rfl fun a hF=>?_
   refine E.opv hF (r_load (hF.at 19 rfl) (ld_all ty_Rat (st.bk 3 rfl) rfl)) rfl rfl rfl rfl fun a hF=>?_
   refine S.callx st hF (r_call Tryz.func33 en33.1 en33.2 (map2 (hF.at 1 rfl) (hF.at 0 rfl))) (skIndex_any c _ _ (3*2+17) _ (hT.below st.bel) (st.f 4 rfl) (endA_lim (c:=c) (RLim.up (rlim_mk2 (limz_64 (by omega) (by omega)) (limz_64 (by decide) (by decide))) 2 (by decide))) (by omega)) rfl rfl rfl rfl fun w40 a st hF=>?_
   have hkx2009:=kX_bd c (endA c (((n:Int):Rat)/((4096:Int):Rat)))
   refine E.opv hF (r_move (hF.at 4 rfl)) rfl rfl rfl rfl fun a hF=>?_
   refine E.opv hF (r_bin (hF.at 1 rfl) (hF.at 0 rfl) eg_scalar (bi_int (ic_eql (c:=true) (dec_tt (kX_endA hc0 hc1 _))) (by simp))) rfl rfl rfl rfl fun a hF=>?_
   refine E.opv hF (r_move (hF.at 0 rfl)) rfl rfl rfl rfl fun a hF=>?_
   refine E.opvg hF (r_move (hF.at 25 rfl)) (wanted_by rfl rfl (hF.at 0 rfl) rfl) rfl rfl rfl fun a hF=>?_
   refine E.opvg hF (r_load (hF.at 24 rfl) (ld_all ty_Rat (st.bk 2 rfl) rfl)) (wanted_by rfl rfl (hF.at 1 rfl) rfl) rfl rfl rfl fun a hF=>?_
   refine S.callxg st hF (wanted_by rfl rfl (hF.at 2 rfl) rfl) (r_call Tryz.func33 en33.1 en33.2 (map2 (hF.at 1 rfl) (hF.at 0 rfl))) (skIndex_any c _ _ (3*2+17) _ (hT.below st.bel) (st.f 5 rfl) (endB_lim (c:=c) (RLim.up (rlim_mk2 (limz_64 (by omega) (by omega)) (limz_64 (by decide) (by decide))) 2 (by decide))) (by omega)) rfl rfl rfl fun w41 a st hF=>?_
   have hkx90661:=kX_bd c (endB c (((n:Int):Rat)/((4096:Int):Rat)))
   refine E.opvg hF (r_move (hF.at 10 rfl)) (wanted_by rfl rfl (hF.at 3 rfl) rfl) rfl rfl rfl fun a hF=>?_
   refine E.opvg hF (r_bin (hF.at 0 rfl) ev_c eg_scalar (ia_add (by omega) (by omega))) (wanted_by rfl rfl (hF.at 4 rfl) rfl) rfl rfl rfl fun a hF=>?_
   refine E.opvg hF (r_move (hF.at 30 rfl)) (wanted_by rfl rfl (hF.at 5 rfl) rfl) rfl rfl rfl fun a hF=>?_
   refine S.callxg st hF (wanted_by rfl rfl (hF.at 6 rfl) rfl) (r_call Tryz.func36 en36.1 en36.2 (map1 (hF.at 0 rfl))) (skParts_any c _) rfl rfl rfl fun w42 a st hF=>?_
   refine E.opvg hF (r_bin (hF.at 2 rfl) (hF.at 0 rfl) eg_scalar (id_remn (a:=(kX c (((n:Int):Rat)/((4096:Int):Rat)))+1) (b:=kP c) (by omega) (by omega))) (wanted_by rfl rfl (hF.at 7 rfl) rfl) rfl rfl rfl fun a hF=>?_
   refine E.opvg hF (r_bin (hF.at 5 rfl) (hF.at 0 rfl) eg_scalar (bi_int (ic_eql (c:=true) (dec_tt (kX_endB hc0 hc1 _))) (by simp))) (wanted_by rfl rfl (hF.at 8 rfl) rfl) rfl rfl rfl fun a hF=>?_
   refine E.opv hF (r_pick_t (hF.at 9 rfl) (hF.at 0 rfl)) rfl rfl rfl rfl fun a hF=>?_
   refine E.opv hF (r_move (hF.at 0 rfl)) rfl rfl rfl rfl fun a hF=>?_
   refine E.opvg hF (r_load (hF.at 34 rfl) (ld_all ty_Rat (st.bk 2 rfl) rfl)) (wanted_by rfl rfl (hF.at 0 rfl) rfl) rfl rfl rfl fun a hF=>?_
   refine E.opvg hF (r_load (hF.at 36 rfl) (ld_all ty_Rat (st.bk 3 rfl) rfl)) (wanted_by rfl rfl (hF.at 1 rfl) rfl) rfl rfl rfl fun a hF=>?_
   refine S.callg st hF (wanted_by rfl rfl (hF.at 2 rfl) rfl) (r_call Tryz.func37 en37.1 en37.2 (map2 (hF.at 1 rfl) (hF.at 0 rfl))) (rSub_any _ _ _ _ (3*2+17) _ (st.f 5 rfl) (st.f 4 rfl) ((endB_lim (c:=c) (RLim.up (rlim_mk2 (limz_64 (by omega) (by omega)) (limz_64 (by decide) (by decide))) 2 (by decide))).up _ (by omega)) ((endA_lim (c:=c) (RLim.up (rlim_mk2 (limz_64 (by omega) (by omega)) (limz_64 (by decide) (by decide))) 2 (by decide))).up _ (by omega)) (by omega)) (fun _ _ h=>h) Rq.cl rfl rfl rfl fun vv44 w43 a st hF=>?_
   obtain⟨b46,ad46,n46,c46,ae46,m46,d46,rfl⟩:=Rq.form (st.f 0 rfl)
   refine S.callg st hF (wanted_by rfl rfl (hF.at 3 rfl) rfl) (r_call Tryz.func22 en22.1 en22.2 (map2 ev_c ev_c)) (rOf2_any (1) (1048576) _ (by decide) (by decide) (by decide) (by decide)) (fun _ _ h=>h) Rq.cl rfl rfl rfl fun vv48 w47 a st hF=>?_
   obtain⟨b50,ad50,n50,c50,ae50,m50,d50,rfl⟩:=Rq.form (st.f 0 rfl)
   refine S.callxg st hF (wanted_by rfl rfl (hF.at 4 rfl) rfl) (r_call Tryz.func19 en19.1 en19.2 (map2 (hF.at 1 rfl) (hF.at 0 rfl))) (rCmp_any _ _ _ _ (max ((3*2+17)+(3*2+17)+1) 2) _ (st.f 1 rfl) (st.f 0 rfl) ((rlim_sub (endB_lim (c:=c) (RLim.up (rlim_mk2 (limz_64 (by omega) (by omega)) (limz_64 (by decide) (by decide))) 2 (by decide))) (endA_lim (c:=c) (RLim.up (rlim_mk2 (limz_64 (by omega) (by omega)) (limz_64 (by decide) (by decide))) 2 (by decide)))).up _ (by omega)) ((RLim.up (rlim_mk2 (limz_64 (by decide) (by decide)) (limz_64 (by decide) (by decide))) 2 (by decide)).up _ (by omega)) (by omega)) rfl rfl rfl fun w51 a st hF=>?_
   refine E.opvg hF (r_bin (hF.at 0 rfl) ev_c eg_scalar (bi_int (ic_lss (c:=true) (dec_tt (qc_lt15.2 (end_near2 _ _)))) (by simp))) (wanted_by rfl rfl (hF.at 5 rfl) rfl) rfl rfl rfl fun a hF=>?_
   refine E.opv hF (r_pick_t (hF.at 6 rfl) (hF.at 0 rfl)) rfl rfl rfl rfl fun a hF=>?_
   refine E.opv hF (r_move (hF.at 0 rfl)) rfl rfl rfl rfl fun a hF=>?_
   refine E.opvg hF (r_move (hF.at 44 rfl)) (wanted_by rfl rfl (hF.at 0 rfl) rfl) rfl rfl rfl fun a hF=>?_
   refine S.callxg st hF (wanted_by rfl rfl (hF.at 1 rfl) rfl) (r_call Tryz.func36 en36.1 en36.2 (map1 (hF.at 0 rfl))) (skParts_any c _) rfl rfl rfl fun w52 a st hF=>?_
   refine E.opvg hF (r_move (hF.at 46 rfl)) (wanted_by rfl rfl (hF.at 2 rfl) rfl) rfl rfl rfl fun a hF=>?_
   refine S.callxg st hF (wanted_by rfl rfl (hF.at 3 rfl) rfl) (r_call Tryz.func38 en38.1 en38.2 (map1 (hF.at 0 rfl))) (rParts15_any c _) rfl rfl rfl fun w53 a st hF=>?_
   refine E.opvg hF (r_bin (hF.at 2 rfl) (hF.at 0 rfl) eg_scalar (bi_int (ic_eql (c:=true) (by simp)) (by simp))) (wanted_by rfl rfl (hF.at 4 rfl) rfl) rfl rfl rfl fun a hF=>?_
   refine E.opv hF (r_pick_t (hF.at 5 rfl) (hF.at 0 rfl)) rfl rfl rfl rfl fun a hF=>?_
   refine E.opset (L':=[(6,.bool true),(129,.bool true),(128,.bool true),(127,.int .i64 (kP c)),(126,.int .i64 c),(125,.int .i64 (kP c)),(124,.int .i64 c),(123,.bool true),(122,.bool true),(121,.bool true),(120,.int .i64 (qc ((endB c (((n:Int):Rat)/((4096:Int):Rat)))-(endA c (((n:Int):Rat)/((4096:Int):Rat)))) (((1:Int):Rat)/((1048576:Int):Rat)))),(119,.agg #[.bool b50,.slice ad50 n50 c50,.slice ae50 m50 d50]),(118,.agg #[.bool b46,.slice ad46 n46 c46,.slice ae46 m46 d46]),(117,.agg #[.bool b20,.slice ad20 n20 c20,.slice ae20 m20 d20]),(116,.agg #[.bool b21,.slice ad21 n21 c21,.slice ae21 m21 d21]),(115,.bool true),(114,.bool true),(113,.bool true),(112,.int .i64 (((kX c (((n:Int):Rat)/((4096:Int):Rat)))+1)%(kP c))),(111,.int .i64 (kP c)),(110,.int .i64 c),(109,.int .i64 ((kX c (((n:Int):Rat)/((4096:Int):Rat)))+1)),(108,.int .i64 (kX c (((n:Int):Rat)/((4096:Int):Rat)))),(107,.int .i64 (kX c (endB c (((n:Int):Rat)/((4096:Int):Rat))))),(106,.agg #[.bool b21,.slice ad21 n21 c21,.slice ae21 m21 d21]),(105,.int .i64 c),(104,.bool true),(103,.bool true),(102,.int .i64 (kX c (((n:Int):Rat)/((4096:Int):Rat)))),(101,.int .i64 (kX c (endA c (((n:Int):Rat)/((4096:Int):Rat))))),(100,.agg #[.bool b20,.slice ad20 n20 c20,.slice ae20 m20 d20]),(99,.int .i64 c),(98,.bool false),(17,.int .i64 (kX c (((n:Int):Rat)/((4096:Int):Rat)))),(75,.int .i64 (kX c (((n:Int):Rat)/((4096:Int):Rat)))),(74,.agg #[.bool b10,.slice ad10 n10 c10,.slice ae10 m10 d10]),(73,.int .i64 c),(16,.pointer (some ⟨g16,0,none⟩)),(15,.pointer (some ⟨g15,0,none⟩)),(72,.agg #[.bool b35,.slice ad35 n35 c35,.slice ae35 m35 d35]),(66,.agg #[.bool b34,.slice ad34 n34 c34,.slice ae34 m34 d34]),(14,.int .i64 ((pieceV c (((n:Int):Rat)/((4096:Int):Rat)):Nat):Int)),(61,.int .i64 ((pieceV c (((n:Int):Rat)/((4096:Int):Rat)):Nat):Int)),(60,.int .i64 (kM c)),(59,.int .i64 (ov c)),(58,.agg #[.bool b10,.slice ad10 n10 c10,.slice ae10 m10 d10]),(57,.int .i64 c),(13,.int .i64 (kM c)),(12,.int .i64 (ov c)),(11,.pointer (some ⟨g11,0,none⟩)),(10,.pointer (some ⟨g10,0,none⟩)),(2,.int .i64 c),(9,.pointer (some ⟨g9,0,none⟩)),(8,.pointer (some ⟨g8,0,none⟩))]) hF (r_assign (hF.at 0 rfl)) rfl rfl rfl rfl fun a hF=>?_
   refine E.nil ?_
   refine wp_ret ?_
   have bel:=st.bel
   refine bodyPost_ret (res_tmp Tryz.results7 (hF.at 0 rfl)) hF.dfr ?_
   exact⟨rfl,bel⟩
end Go.Proofs.YtplngpfpcheofaaGreatDoor
