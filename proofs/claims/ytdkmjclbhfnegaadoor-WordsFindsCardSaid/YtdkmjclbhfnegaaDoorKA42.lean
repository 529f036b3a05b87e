import Derived.Test.YtdkmjclbhfnegaaDoorKA40
namespace Go.Proofs.YtdkmjclbhfnegaaDoor
open Go.RowKit
set_option maxRecDepth 100000
set_option linter.unusedVariables false
set_option maxHeartbeats 8000000
theorem wFind_yes (z:Int) (xs:List Nat) (hx:okb 256 xs) (hl:xs.length≤1000000) (h:0≤fdA (nmK z) xs) (w:World) (hT:TabA w):Calls Tryd.prog 11 #[.int .i64 z,.string (bstr xs)] w (ValPost w (.tuple #[.int .i64 (fdA (nmK z) xs),.bool true])):=by
 have e:=wFind_any z xs hx hl w hT
 rwa[fdI_is,fdB_is,show max (fdA (nmK z) xs) 0=fdA (nmK z) xs by omega,show decide (0≤fdA (nmK z) xs)=true from decide_eq_true h] at e
theorem wFind_no (z:Int) (xs:List Nat) (hx:okb 256 xs) (hl:xs.length≤1000000) (h:¬0≤fdA (nmK z) xs) (w:World) (hT:TabA w):Calls Tryd.prog 11 #[.int .i64 z,.string (bstr xs)] w (ValPost w (.tuple #[.int .i64 0,.bool false])):=by
 have e:=wFind_any z xs hx hl w hT
 rwa[fdI_is,fdB_is,show max (fdA (nmK z) xs) 0=0 by omega,show decide (0≤fdA (nmK z) xs)=false from decide_eq_false h] at e
theorem wordsFinds_walk (z:Int) (xs:List Nat) (h8x:okb 256 xs) (w:World) (hT:TabA w):
 Calls Tryd.prog 4 #[.int .i64 z,.string (bstr xs)] w (ValPost w (.bool true)):=by
 obtain⟨sx,hS⟩:∃sx,sx=List.take 30 xs:=⟨_,rfl⟩
 have h8:okb 256 sx:=by rw[hS];exact okb_take h8x _
 have hl:sx.length≤1000000:=by rw[hS,List.length_take];omega
 have st:=St.start w
 refine E.enter (nt:=31) (L:=[(0,.int .i64 z),(1,.string (bstr (xs)))]) Tryd.func4 rfl rfl rfl (args_cons (i:=0) rfl (args_cons (i:=1) rfl args_nil)) ?_
 intro a hF
 refine wp_seq ?_
 refine E.seq ?_
 refine E.opv hF (r_assign ev_c) rfl rfl rfl rfl fun a hF=>?_
 refine E.nil ?_
 refine wp_seq ?_
 refine E.seq ?_
 refine E.opv hF (r_move (hF.at 2 rfl)) rfl rfl rfl rfl fun a hF=>?_
 refine S.callx st hF (rgc k10 (map2 (hF.at 0 rfl) ev_c)) (wCut_any (xs) 30 _) rfl rfl rfl rfl fun w1 a st hF=>?_
 refine E.opset (L':=[(1,.string (bstr (List.take 30 (xs)))),(9,.string (bstr (List.take 30 (xs)))),(8,.string (bstr (xs))),(4,.bool false),(0,.int .i64 z)]) hF (r_assign (hF.at 0 rfl)) rfl rfl rfl rfl fun a hF=>?_
 replace hF:Fr 31 a [(1,.string (bstr (sx))),(9,.string (bstr (List.take 30 (xs)))),(8,.string (bstr (xs))),(4,.bool false),(0,.int .i64 z)]:=by rw[hS];exact hF
 refine E.nil ?_
 refine wp_seq ?_
 refine wp_seq ?_
 refine E.seq ?_
 refine S.callx st hF (rgc k6 map0) (wAwake_any _ (hT.below st.bel)) rfl rfl rfl rfl fun w2 a st hF=>?_
 refine E.opv hF (r_un (hF.at 0 rfl) (bn_not _ false rfl)) rfl rfl rfl rfl fun a hF=>?_
 refine E.nil ?_
 refine wp_cond_false (hF.at 0 rfl) ?_
 refine wp_skip ?_
 refine E.norm ?_
 refine wp_seq ?_
 refine E.seq ?_
 refine E.opv hF (r_move (hF.at 6 rfl)) rfl rfl rfl rfl fun a hF=>?_
 refine E.opv hF (r_move (hF.at 3 rfl)) rfl rfl rfl rfl fun a hF=>?_
 by_cases hc3:0≤fdA (nmK z) sx
 ·refine S.callx st hF (rgc k11 (map2 (hF.at 1 rfl) (hF.at 0 rfl))) (wFind_yes z sx h8 hl hc3 _ (hT.below st.bel)) rfl rfl rfl rfl fun w4 a st hF=>?_
  refine E.opv hF (r_move (hF.at 0 rfl)) rfl rfl rfl rfl fun a hF=>?_
  refine E.opv hF (r_extract (v:= .int .i64 (fdA (nmK z) sx)) (hF.at 0 rfl) rfl) rfl rfl rfl rfl fun a hF=>?_
  refine E.opv hF (r_extract (v:= .bool true) (hF.at 1 rfl) rfl) rfl rfl rfl rfl fun a hF=>?_
  refine E.opv hF (r_assign (hF.at 1 rfl)) rfl rfl rfl rfl fun a hF=>?_
  refine E.opv hF (r_assign (hF.at 1 rfl)) rfl rfl rfl rfl fun a hF=>?_
  refine E.nil ?_
  refine wp_seq ?_
  refine E.seq ?_
  refine E.opv hF (r_move (hF.at 14 rfl)) rfl rfl rfl rfl fun a hF=>?_
  refine E.opv hF (r_move (hF.at 11 rfl)) rfl rfl rfl rfl fun a hF=>?_
  refine S.callx st hF (rgc k12 (map2 (hF.at 1 rfl) (hF.at 0 rfl))) (rFind27_any z sx h8 hl _) rfl rfl rfl rfl fun w5 a st hF=>?_
  refine E.opv hF (r_assign (hF.at 0 rfl)) rfl rfl rfl rfl fun a hF=>?_
  refine E.nil ?_
  refine wp_seq ?_
  refine E.seq ?_
  refine E.opv hF (r_move (hF.at 4 rfl)) rfl rfl rfl rfl fun a hF=>?_
  refine E.opv hF (r_move (hF.at 1 rfl)) rfl rfl rfl rfl fun a hF=>?_
  refine E.opv hF (r_bin (hF.at 0 rfl) ev_c eg_scalar (bi_int (ic_geq (c:=true) (dec_tt (by omega))) (by simp))) rfl rfl rfl rfl fun a hF=>?_
  refine E.opv hF (r_bin (hF.at 2 rfl) (hF.at 0 rfl) eg_bool (bb_eql (d:=true) rfl)) rfl rfl rfl rfl fun a hF=>?_
  refine E.opv hF (r_move (hF.at 0 rfl)) rfl rfl rfl rfl fun a hF=>?_
  refine E.opvg hF (r_move (hF.at 10 rfl)) (wanted_by rfl rfl (hF.at 0 rfl) rfl) rfl rfl rfl fun a hF=>?_
  refine E.opvg hF (r_move (hF.at 6 rfl)) (wanted_by rfl rfl (hF.at 1 rfl) rfl) rfl rfl rfl fun a hF=>?_
  refine E.opvg hF (r_builtin (map2 (hF.at 0 rfl) ev_c) bl_max) (wanted_by rfl rfl (hF.at 2 rfl) rfl) rfl rfl rfl fun a hF=>?_
  refine E.opvg hF (r_bin (hF.at 2 rfl) (hF.at 0 rfl) eg_scalar (bi_int (ic_eql (c:=true) (dec_tt (by omega))) (by simp))) (wanted_by rfl rfl (hF.at 3 rfl) rfl) rfl rfl rfl fun a hF=>?_
  refine E.opv hF (r_pick_t (hF.at 4 rfl) (hF.at 0 rfl)) rfl rfl rfl rfl fun a hF=>?_
  refine E.opset (L':=[(4,.bool true),(30,.bool true),(29,.bool true),(28,.int .i64 (max (fdA (nmK z) sx) 0)),(27,.int .i64 (fdA (nmK z) sx)),(26,.int .i64 (fdA (nmK z) sx)),(25,.bool true),(24,.bool true),(23,.bool true),(22,.int .i64 (fdA (nmK z) sx)),(21,.bool true),(7,.int .i64 (fdA (nmK z) sx)),(20,.int .i64 (fdA (nmK z) sx)),(19,.string (bstr (sx))),(18,.int .i64 z),(6,.bool true),(5,.int .i64 (fdA (nmK z) sx)),(17,.bool true),(16,.int .i64 (fdA (nmK z) sx)),(12,.tuple #[.int .i64 (fdA (nmK z) sx),.bool true]),(15,.tuple #[.int .i64 (fdA (nmK z) sx),.bool true]),(14,.string (bstr (sx))),(13,.int .i64 z),(11,.bool false),(10,.bool true),(1,.string (bstr (sx))),(9,.string (bstr (List.take 30 (xs)))),(8,.string (bstr (xs))),(0,.int .i64 z)]) hF (r_assign (hF.at 0 rfl)) rfl rfl rfl rfl fun a hF=>?_
  refine E.nil ?_
  refine wp_ret ?_
  have bel:=st.bel
  refine bodyPost_ret (res_tmp Tryd.results4 (hF.at 0 rfl)) hF.dfr ?_
  exact⟨rfl,bel⟩
 ·refine S.callx st hF (rgc k11 (map2 (hF.at 1 rfl) (hF.at 0 rfl))) (wFind_no z sx h8 hl hc3 _ (hT.below st.bel)) rfl rfl rfl rfl fun w6 a st hF=>?_
  refine E.opv hF (r_move (hF.at 0 rfl)) rfl rfl rfl rfl fun a hF=>?_
  refine E.opv hF (r_extract (v:= .int .i64 0) (hF.at 0 rfl) rfl) rfl rfl rfl rfl fun a hF=>?_
  refine E.opv hF (r_extract (v:= .bool false) (hF.at 1 rfl) rfl) rfl rfl rfl rfl fun a hF=>?_
  refine E.opv hF (r_assign (hF.at 1 rfl)) rfl rfl rfl rfl fun a hF=>?_
  refine E.opv hF (r_assign (hF.at 1 rfl)) rfl rfl rfl rfl fun a hF=>?_
  refine E.nil ?_
  refine wp_seq ?_
  refine E.seq ?_
  refine E.opv hF (r_move (hF.at 14 rfl)) rfl rfl rfl rfl fun a hF=>?_
  refine E.opv hF (r_move (hF.at 11 rfl)) rfl rfl rfl rfl fun a hF=>?_
  refine S.callx st hF (rgc k12 (map2 (hF.at 1 rfl) (hF.at 0 rfl))) (rFind27_any z sx h8 hl _) rfl rfl rfl rfl fun w7 a st hF=>?_
  refine E.opv hF (r_assign (hF.at 0 rfl)) rfl rfl rfl rfl fun a hF=>?_
  refine E.nil ?_
  refine wp_seq ?_
  refine E.seq ?_
  refine E.opv hF (r_move (hF.at 4 rfl)) rfl rfl rfl rfl fun a hF=>?_
  refine E.opv hF (r_move (hF.at 1 rfl)) rfl rfl rfl rfl fun a hF=>?_
  refine E.opv hF (r_bin (hF.at 0 rfl) ev_c eg_scalar (bi_int (ic_geq (c:=false) (dec_ff (by omega))) (by simp))) rfl rfl rfl rfl fun a hF=>?_
  refine E.opv hF (r_bin (hF.at 2 rfl) (hF.at 0 rfl) eg_bool (bb_eql (d:=true) rfl)) rfl rfl rfl rfl fun a hF=>?_
  refine E.opv hF (r_move (hF.at 0 rfl)) rfl rfl rfl rfl fun a hF=>?_
  refine E.opvg hF (r_move (hF.at 10 rfl)) (wanted_by rfl rfl (hF.at 0 rfl) rfl) rfl rfl rfl fun a hF=>?_
  refine E.opvg hF (r_move (hF.at 6 rfl)) (wanted_by rfl rfl (hF.at 1 rfl) rfl) rfl rfl rfl fun a hF=>?_
  refine E.opvg hF (r_builtin (map2 (hF.at 0 rfl) ev_c) bl_max) (wanted_by rfl rfl (hF.at 2 rfl) rfl) rfl rfl rfl fun a hF=>?_
  refine E.opvg hF (r_bin (hF.at 2 rfl) (hF.at 0 rfl) eg_scalar (bi_int (ic_eql (c:=true) (dec_tt (by omega))) (by simp))) (wanted_by rfl rfl (hF.at 3 rfl) rfl) rfl rfl rfl fun a hF=>?_
  refine E.opv hF (r_pick_t (hF.at 4 rfl) (hF.at 0 rfl)) rfl rfl rfl rfl fun a hF=>?_
  refine E.opset (L':=[(4,.bool true),(30,.bool true),(29,.bool true),(28,.int .i64 (max (fdA (nmK z) sx) 0)),(27,.int .i64 (fdA (nmK z) sx)),(26,.int .i64 0),(25,.bool true),(24,.bool true),(23,.bool false),(22,.int .i64 (fdA (nmK z) sx)),(21,.bool false),(7,.int .i64 (fdA (nmK z) sx)),(20,.int .i64 (fdA (nmK z) sx)),(19,.string (bstr (sx))),(18,.int .i64 z),(6,.bool false),(5,.int .i64 0),(17,.bool false),(16,.int .i64 0),(12,.tuple #[.int .i64 0,.bool false]),(15,.tuple #[.int .i64 0,.bool false]),(14,.string (bstr (sx))),(13,.int .i64 z),(11,.bool false),(10,.bool true),(1,.string (bstr (sx))),(9,.string (bstr (List.take 30 (xs)))),(8,.string (bstr (xs))),(0,.int .i64 z)]) hF (r_assign (hF.at 0 rfl)) rfl rfl rfl rfl fun a hF=>?_
  refine E.nil ?_
  refine wp_ret ?_
  have bel:=st.bel
  refine bodyPost_ret (res_tmp Tryd.results4 (hF.at 0 rfl)) hF.dfr ?_
  exact⟨rfl,bel⟩
end Go.Proofs.YtdkmjclbhfnegaaDoor
