import Derived.Test.YtnljadejcfgmaaaGreatDoorKA18
namespace Go.Proofs.YtnljadejcfgmaaaGreatDoor
open Go.RowKit
set_option maxRecDepth 100000
set_option linter.unusedVariables false
set_option maxHeartbeats 8000000
theorem en97:(Tryz.f97.name == "runtime.NumGoroutine")=false∧Tryz.f97.body.isNone=false:=⟨by decide+kernel,by kernel_rfl⟩
theorem within60_any (n d:Int) (w:World):
 Calls Tryz.prog 97 #[.int .i64 n,.int .i64 d,.int .i64 60] w (ValPost w (.bool (wiB 60 n d))):=by
 have st:=St.start w
 refine E.enter (nt:=28) (L:=[(0,.int .i64 n),(1,.int .i64 d),(2,.int .i64 60)]) Tryz.func97 rfl rfl rfl (args_cons (i:=0) rfl (args_cons (i:=1) rfl (args_cons (i:=2) rfl args_nil))) ?_
 intro a hF
 refine wp_seq ?_
 refine E.seq ?_
 refine E.opv hF (r_assign ev_c) rfl rfl rfl rfl fun a hF=>?_
 refine E.nil ?_
 refine wp_seq ?_
 refine E.seq ?_
 refine E.opv hF (r_move (hF.at 2 rfl)) rfl rfl rfl rfl fun a hF=>?_
 by_cases hc1:1≤d
 ·refine E.opv hF (r_bin ev_c (hF.at 0 rfl) eg_scalar (bi_int (ic_leq (c:=true) (dec_tt hc1)) (by simp))) rfl rfl rfl rfl fun a hF=>?_
  refine E.opv hF (r_move (hF.at 0 rfl)) rfl rfl rfl rfl fun a hF=>?_
  refine E.opvg hF (r_move (hF.at 5 rfl)) (wanted_by rfl rfl (hF.at 0 rfl) rfl) rfl rfl rfl fun a hF=>?_
  by_cases hc2:d≤3600
  ·refine E.opvg hF (r_bin (hF.at 0 rfl) ev_c eg_scalar (bi_int (ic_leq (c:=true) (dec_tt hc2)) (by simp))) (wanted_by rfl rfl (hF.at 1 rfl) rfl) rfl rfl rfl fun a hF=>?_
   refine E.opv hF (r_pick_t (hF.at 2 rfl) (hF.at 0 rfl)) rfl rfl rfl rfl fun a hF=>?_
   refine E.opv hF (r_move (hF.at 0 rfl)) rfl rfl rfl rfl fun a hF=>?_
   refine E.opvg hF (r_move (hF.at 10 rfl)) (wanted_by rfl rfl (hF.at 0 rfl) rfl) rfl rfl rfl fun a hF=>?_
   refine E.opvg hF (r_un (hF.at 0 rfl) (bn_neg (by omega) (by omega))) (wanted_by rfl rfl (hF.at 1 rfl) rfl) rfl rfl rfl fun a hF=>?_
   refine E.opvg hF (r_move (hF.at 11 rfl)) (wanted_by rfl rfl (hF.at 2 rfl) rfl) rfl rfl rfl fun a hF=>?_
   refine E.opvg hF (r_bin (hF.at 1 rfl) (hF.at 0 rfl) eg_scalar (ia_mul (by omega) (by omega))) (wanted_by rfl rfl (hF.at 3 rfl) rfl) rfl rfl rfl fun a hF=>?_
   refine E.opvg hF (r_move (hF.at 12 rfl)) (wanted_by rfl rfl (hF.at 4 rfl) rfl) rfl rfl rfl fun a hF=>?_
   by_cases hc3:(-60)*d≤n
   ·refine E.opvg hF (r_bin (hF.at 1 rfl) (hF.at 0 rfl) eg_scalar (bi_int (ic_leq (c:=true) (dec_tt hc3)) (by simp))) (wanted_by rfl rfl (hF.at 5 rfl) rfl) rfl rfl rfl fun a hF=>?_
    refine E.opv hF (r_pick_t (hF.at 6 rfl) (hF.at 0 rfl)) rfl rfl rfl rfl fun a hF=>?_
    refine E.opv hF (r_move (hF.at 0 rfl)) rfl rfl rfl rfl fun a hF=>?_
    refine E.opvg hF (r_move (hF.at 16 rfl)) (wanted_by rfl rfl (hF.at 0 rfl) rfl) rfl rfl rfl fun a hF=>?_
    refine E.opvg hF (r_move (hF.at 19 rfl)) (wanted_by rfl rfl (hF.at 1 rfl) rfl) rfl rfl rfl fun a hF=>?_
    refine E.opvg hF (r_move (hF.at 19 rfl)) (wanted_by rfl rfl (hF.at 2 rfl) rfl) rfl rfl rfl fun a hF=>?_
    refine E.opvg hF (r_bin (hF.at 1 rfl) (hF.at 0 rfl) eg_scalar (ia_mul (by omega) (by omega))) (wanted_by rfl rfl (hF.at 3 rfl) rfl) rfl rfl rfl fun a hF=>?_
    by_cases hc4:n≤60*d
    ·refine E.opvg hF (r_bin (hF.at 3 rfl) (hF.at 0 rfl) eg_scalar (bi_int (ic_leq (c:=true) (dec_tt hc4)) (by simp))) (wanted_by rfl rfl (hF.at 4 rfl) rfl) rfl rfl rfl fun a hF=>?_
     refine E.opv hF (r_pick_t (hF.at 5 rfl) (hF.at 0 rfl)) rfl rfl rfl rfl fun a hF=>?_
     refine E.opset (L':=[(6,.bool true),(27,.bool true),(26,.bool true),(25,.int .i64 (60*d)),(24,.int .i64 d),(23,.int .i64 60),(22,.int .i64 n),(21,.bool true),(20,.bool true),(19,.bool true),(18,.int .i64 n),(17,.int .i64 ((-60)*d)),(16,.int .i64 d),(15,.int .i64 (-60)),(14,.int .i64 60),(13,.bool true),(12,.bool true),(11,.bool true),(10,.int .i64 d),(9,.bool true),(8,.bool true),(7,.int .i64 d),(0,.int .i64 n),(1,.int .i64 d),(2,.int .i64 60)]) hF (r_assign (hF.at 0 rfl)) rfl rfl rfl rfl fun a hF=>?_
     refine E.nil ?_
     refine wp_ret ?_
     have bel:=st.bel
     refine bodyPost_ret (res_tmp Tryz.results97 (hF.at 0 rfl)) hF.dfr ?_
     refine⟨rv_bool ?_,bel⟩
     unfold wiB
     first|exact(decide_eq_true (by omega)).symm |exact(decide_eq_false (by omega)).symm |exact decide_eq_decide.2 (by omega)
    ·refine E.opvg hF (r_bin (hF.at 3 rfl) (hF.at 0 rfl) eg_scalar (bi_int (ic_leq (c:=false) (dec_ff hc4)) (by simp))) (wanted_by rfl rfl (hF.at 4 rfl) rfl) rfl rfl rfl fun a hF=>?_
     refine E.opv hF (r_pick_t (hF.at 5 rfl) (hF.at 0 rfl)) rfl rfl rfl rfl fun a hF=>?_
     refine E.opset (L':=[(6,.bool false),(27,.bool false),(26,.bool false),(25,.int .i64 (60*d)),(24,.int .i64 d),(23,.int .i64 60),(22,.int .i64 n),(21,.bool true),(20,.bool true),(19,.bool true),(18,.int .i64 n),(17,.int .i64 ((-60)*d)),(16,.int .i64 d),(15,.int .i64 (-60)),(14,.int .i64 60),(13,.bool true),(12,.bool true),(11,.bool true),(10,.int .i64 d),(9,.bool true),(8,.bool true),(7,.int .i64 d),(0,.int .i64 n),(1,.int .i64 d),(2,.int .i64 60)]) hF (r_assign (hF.at 0 rfl)) rfl rfl rfl rfl fun a hF=>?_
     refine E.nil ?_
     refine wp_ret ?_
     have bel:=st.bel
     refine bodyPost_ret (res_tmp Tryz.results97 (hF.at 0 rfl)) hF.dfr ?_
     refine⟨rv_bool ?_,bel⟩
     unfold wiB
     first|exact(decide_eq_true (by omega)).symm |exact(decide_eq_false (by omega)).symm |exact decide_eq_decide.2 (by omega)
   ·refine E.opvg hF (r_bin (hF.at 1 rfl) (hF.at 0 rfl) eg_scalar (bi_int (ic_leq (c:=false) (dec_ff hc3)) (by simp))) (wanted_by rfl rfl (hF.at 5 rfl) rfl) rfl rfl rfl fun a hF=>?_
    refine E.opv hF (r_pick_t (hF.at 6 rfl) (hF.at 0 rfl)) rfl rfl rfl rfl fun a hF=>?_
    refine E.opv hF (r_move (hF.at 0 rfl)) rfl rfl rfl rfl fun a hF=>?_
    refine E.unwanted hF (wanted_by rfl rfl (hF.at 0 rfl) rfl) rfl rfl rfl fun a hF=>?_
    refine E.unwanted hF (wanted_by rfl rfl (hF.at 1 rfl) rfl) rfl rfl rfl fun a hF=>?_
    refine E.unwanted hF (wanted_by rfl rfl (hF.at 2 rfl) rfl) rfl rfl rfl fun a hF=>?_
    refine E.unwanted hF (wanted_by rfl rfl (hF.at 3 rfl) rfl) rfl rfl rfl fun a hF=>?_
    refine E.unwanted hF (wanted_by rfl rfl (hF.at 4 rfl) rfl) rfl rfl rfl fun a hF=>?_
    refine E.opv hF (r_pick_f (hF.at 5 rfl) ev_c) rfl rfl rfl rfl fun a hF=>?_
    refine E.opset (L':=[(6,.bool false),(27,.bool false),(26,undef),(25,undef),(24,undef),(23,undef),(22,undef),(21,.bool false),(20,.bool false),(19,.bool false),(18,.int .i64 n),(17,.int .i64 ((-60)*d)),(16,.int .i64 d),(15,.int .i64 (-60)),(14,.int .i64 60),(13,.bool true),(12,.bool true),(11,.bool true),(10,.int .i64 d),(9,.bool true),(8,.bool true),(7,.int .i64 d),(0,.int .i64 n),(1,.int .i64 d),(2,.int .i64 60)]) hF (r_assign (hF.at 0 rfl)) rfl rfl rfl rfl fun a hF=>?_
    refine E.nil ?_
    refine wp_ret ?_
    have bel:=st.bel
    refine bodyPost_ret (res_tmp Tryz.results97 (hF.at 0 rfl)) hF.dfr ?_
    refine⟨rv_bool ?_,bel⟩
    unfold wiB
    first|exact(decide_eq_true (by omega)).symm |exact(decide_eq_false (by omega)).symm |exact decide_eq_decide.2 (by omega)
  ·refine E.opvg hF (r_bin (hF.at 0 rfl) ev_c eg_scalar (bi_int (ic_leq (c:=false) (dec_ff hc2)) (by simp))) (wanted_by rfl rfl (hF.at 1 rfl) rfl) rfl rfl rfl fun a hF=>?_
   refine E.opv hF (r_pick_t (hF.at 2 rfl) (hF.at 0 rfl)) rfl rfl rfl rfl fun a hF=>?_
   refine E.opv hF (r_move (hF.at 0 rfl)) rfl rfl rfl rfl fun a hF=>?_
   refine E.unwanted hF (wanted_by rfl rfl (hF.at 0 rfl) rfl) rfl rfl rfl fun a hF=>?_
   refine E.unwanted hF (wanted_by rfl rfl (hF.at 1 rfl) rfl) rfl rfl rfl fun a hF=>?_
   refine E.unwanted hF (wanted_by rfl rfl (hF.at 2 rfl) rfl) rfl rfl rfl fun a hF=>?_
   refine E.unwanted hF (wanted_by rfl rfl (hF.at 3 rfl) rfl) rfl rfl rfl fun a hF=>?_
   refine E.unwanted hF (wanted_by rfl rfl (hF.at 4 rfl) rfl) rfl rfl rfl fun a hF=>?_
   refine E.unwanted hF (wanted_by rfl rfl (hF.at 5 rfl) rfl) rfl rfl rfl fun a hF=>?_
   refine E.opv hF (r_pick_f (hF.at 6 rfl) ev_c) rfl rfl rfl rfl fun a hF=>?_
   refine E.opv hF (r_move (hF.at 0 rfl)) rfl rfl rfl rfl fun a hF=>?_
   refine E.unwanted hF (wanted_by rfl rfl (hF.at 0 rfl) rfl) rfl rfl rfl fun a hF=>?_
   refine E.unwanted hF (wanted_by rfl rfl (hF.at 1 rfl) rfl) rfl rfl rfl fun a hF=>?_
   refine E.unwanted hF (wanted_by rfl rfl (hF.at 2 rfl) rfl) rfl rfl rfl fun a hF=>?_
   refine E.unwanted hF (wanted_by rfl rfl (hF.at 3 rfl) rfl) rfl rfl rfl fun a hF=>?_
   refine E.unwanted hF (wanted_by rfl rfl (hF.at 4 rfl) rfl) rfl rfl rfl fun a hF=>?_
   refine E.opv hF (r_pick_f (hF.at 5 rfl) ev_c) rfl rfl rfl rfl fun a hF=>?_
   refine E.opset (L':=[(6,.bool false),(27,.bool false),(26,undef),(25,undef),(24,undef),(23,undef),(22,undef),(21,.bool false),(20,.bool false),(19,undef),(18,undef),(17,undef),(16,undef),(15,undef),(14,undef),(13,.bool false),(12,.bool false),(11,.bool false),(10,.int .i64 d),(9,.bool true),(8,.bool true),(7,.int .i64 d),(0,.int .i64 n),(1,.int .i64 d),(2,.int .i64 60)]) hF (r_assign (hF.at 0 rfl)) rfl rfl rfl rfl fun a hF=>?_
   refine E.nil ?_
   refine wp_ret ?_
   have bel:=st.bel
   refine bodyPost_ret (res_tmp Tryz.results97 (hF.at 0 rfl)) hF.dfr ?_
   refine⟨rv_bool ?_,bel⟩
   unfold wiB
   first|exact(decide_eq_true (by omega)).symm |exact(decide_eq_false (by omega)).symm |exact decide_eq_decide.2 (by omega)
 ·refine E.opv hF (r_bin ev_c (hF.at 0 rfl) eg_scalar (bi_int (ic_leq (c:=false) (dec_ff hc1)) (by simp))) rfl rfl rfl rfl fun a hF=>?_
  refine E.opv hF (r_move (hF.at 0 rfl)) rfl rfl rfl rfl fun a hF=>?_
  refine E.unwanted hF (wanted_by rfl rfl (hF.at 0 rfl) rfl) rfl rfl rfl fun a hF=>?_
  refine E.unwanted hF (wanted_by rfl rfl (hF.at 1 rfl) rfl) rfl rfl rfl fun a hF=>?_
  refine E.opv hF (r_pick_f (hF.at 2 rfl) ev_c) rfl rfl rfl rfl fun a hF=>?_
  refine E.opv hF (r_move (hF.at 0 rfl)) rfl rfl rfl rfl fun a hF=>?_
  refine E.unwanted hF (wanted_by rfl rfl (hF.at 0 rfl) rfl) rfl rfl rfl fun a hF=>?_
  refine E.unwanted hF (wanted_by rfl rfl (hF.at 1 rfl) rfl) rfl rfl rfl fun a hF=>?_
  refine E.unwanted hF (wanted_by rfl rfl (hF.at 2 rfl) rfl) rfl rfl rfl fun a hF=>?_
  refine E.unwanted hF (wanted_by rfl rfl (hF.at 3 rfl) rfl) rfl rfl rfl fun a hF=>?_
  refine E.unwanted hF (wanted_by rfl rfl (hF.at 4 rfl) rfl) rfl rfl rfl fun a hF=>?_
  refine E.unwanted hF (wanted_by rfl rfl (hF.at 5 rfl) rfl) rfl rfl rfl fun a hF=>?_
  refine E.opv hF (r_pick_f (hF.at 6 rfl) ev_c) rfl rfl rfl rfl fun a hF=>?_
  refine E.opv hF (r_move (hF.at 0 rfl)) rfl rfl rfl rfl fun a hF=>?_
  refine E.unwanted hF (wanted_by rfl rfl (hF.at 0 rfl) rfl) rfl rfl rfl fun a hF=>?_
  refine E.unwanted hF (wanted_by rfl rfl (hF.at 1 rfl) rfl) rfl rfl rfl fun a hF=>?_
  refine E.unwanted hF (wanted_by rfl rfl (hF.at 2 rfl) rfl) rfl rfl rfl fun a hF=>?_
  refine E.unwanted hF (wanted_by rfl rfl (hF.at 3 rfl) rfl) rfl rfl rfl fun a hF=>?_
  refine E.unwanted hF (wanted_by rfl rfl (hF.at 4 rfl) rfl) rfl rfl rfl fun a hF=>?_
  refine E.opv hF (r_pick_f (hF.at 5 rfl) ev_c) rfl rfl rfl rfl fun a hF=>?_
  refine E.opset (L':=[(6,.bool false),(27,.bool false),(26,undef),(25,undef),(24,undef),(23,undef),(22,undef),(21,.bool false),(20,.bool false),(19,undef),(18,undef),(17,undef),(16,undef),(15,undef),(14,undef),(13,.bool false),(12,.bool false),(11,undef),(10,undef),(9,.bool false),(8,.bool false),(7,.int .i64 d),(0,.int .i64 n),(1,.int .i64 d),(2,.int .i64 60)]) hF (r_assign (hF.at 0 rfl)) rfl rfl rfl rfl fun a hF=>?_
  refine E.nil ?_
  refine wp_ret ?_
  have bel:=st.bel
  refine bodyPost_ret (res_tmp Tryz.results97 (hF.at 0 rfl)) hF.dfr ?_
  refine⟨rv_bool ?_,bel⟩
  unfold wiB
  first|exact(decide_eq_true (by omega)).symm |exact(decide_eq_false (by omega)).symm |exact decide_eq_decide.2 (by omega)
theorem within180_any (n d:Int) (w:World):
 Calls Tryz.prog 97 #[.int .i64 n,.int .i64 d,.int .i64 180] w (ValPost w (.bool (wiB 180 n d))):=by
 have st:=St.start w
 refine E.enter (nt:=28) (L:=[(0,.int .i64 n),(1,.int .i64 d),(2,.int .i64 180)]) Tryz.func97 rfl rfl rfl (args_cons (i:=0) rfl (args_cons (i:=1) rfl (args_cons (i:=2) rfl args_nil))) ?_
 intro a hF
 refine wp_seq ?_
 refine E.seq ?_
 refine E.opv hF (r_assign ev_c) rfl rfl rfl rfl fun a hF=>?_
 refine E.nil ?_
 refine wp_seq ?_
 refine E.seq ?_
 refine E.opv hF (r_move (hF.at 2 rfl)) rfl rfl rfl rfl fun a hF=>?_
 by_cases hc1:1≤d
 ·refine E.opv hF (r_bin ev_c (hF.at 0 rfl) eg_scalar (bi_int (ic_leq (c:=true) (dec_tt hc1)) (by simp))) rfl rfl rfl rfl fun a hF=>?_
  refine E.opv hF (r_move (hF.at 0 rfl)) rfl rfl rfl rfl fun a hF=>?_
  refine E.opvg hF (r_move (hF.at 5 rfl)) (wanted_by rfl rfl (hF.at 0 rfl) rfl) rfl rfl rfl fun a hF=>?_
  by_cases hc2:d≤3600
  ·refine E.opvg hF (r_bin (hF.at 0 rfl) ev_c eg_scalar (bi_int (ic_leq (c:=true) (dec_tt hc2)) (by simp))) (wanted_by rfl rfl (hF.at 1 rfl) rfl) rfl rfl rfl fun a hF=>?_
   refine E.opv hF (r_pick_t (hF.at 2 rfl) (hF.at 0 rfl)) rfl rfl rfl rfl fun a hF=>?_
   refine E.opv hF (r_move (hF.at 0 rfl)) rfl rfl rfl rfl fun a hF=>?_
   refine E.opvg hF (r_move (hF.at 10 rfl)) (wanted_by rfl rfl (hF.at 0 rfl) rfl) rfl rfl rfl fun a hF=>?_
   refine E.opvg hF (r_un (hF.at 0 rfl) (bn_neg (by omega) (by omega))) (wanted_by rfl rfl (hF.at 1 rfl) rfl) rfl rfl rfl fun a hF=>?_
   refine E.opvg hF (r_move (hF.at 11 rfl)) (wanted_by rfl rfl (hF.at 2 rfl) rfl) rfl rfl rfl fun a hF=>?_
   refine E.opvg hF (r_bin (hF.at 1 rfl) (hF.at 0 rfl) eg_scalar (ia_mul (by omega) (by omega))) (wanted_by rfl rfl (hF.at 3 rfl) rfl) rfl rfl rfl fun a hF=>?_
   refine E.opvg hF (r_move (hF.at 12 rfl)) (wanted_by rfl rfl (hF.at 4 rfl) rfl) rfl rfl rfl fun a hF=>?_
   by_cases hc3:(-180)*d≤n
   ·refine E.opvg hF (r_bin (hF.at 1 rfl) (hF.at 0 rfl) eg_scalar (bi_int (ic_leq (c:=true) (dec_tt hc3)) (by simp))) (wanted_by rfl rfl (hF.at 5 rfl) rfl) rfl rfl rfl fun a hF=>?_
    refine E.opv hF (r_pick_t (hF.at 6 rfl) (hF.at 0 rfl)) rfl rfl rfl rfl fun a hF=>?_
    refine E.opv hF (r_move (hF.at 0 rfl)) rfl rfl rfl rfl fun a hF=>?_
    refine E.opvg hF (r_move (hF.at 16 rfl)) (wanted_by rfl rfl (hF.at 0 rfl) rfl) rfl rfl rfl fun a hF=>?_
    refine E.opvg hF (r_move (hF.at 19 rfl)) (wanted_by rfl rfl (hF.at 1 rfl) rfl) rfl rfl rfl fun a hF=>?_
    refine E.opvg hF (r_move (hF.at 19 rfl)) (wanted_by rfl rfl (hF.at 2 rfl) rfl) rfl rfl rfl fun a hF=>?_
    refine E.opvg hF (r_bin (hF.at 1 rfl) (hF.at 0 rfl) eg_scalar (ia_mul (by omega) (by omega))) (wanted_by rfl rfl (hF.at 3 rfl) rfl) rfl rfl rfl fun a hF=>?_
    by_cases hc4:n≤180*d
    ·refine E.opvg hF (r_bin (hF.at 3 rfl) (hF.at 0 rfl) eg_scalar (bi_int (ic_leq (c:=true) (dec_tt hc4)) (by simp))) (wanted_by rfl rfl (hF.at 4 rfl) rfl) rfl rfl rfl fun a hF=>?_
     refine E.opv hF (r_pick_t (hF.at 5 rfl) (hF.at 0 rfl)) rfl rfl rfl rfl fun a hF=>?_
     refine E.opset (L':=[(6,.bool true),(27,.bool true),(26,.bool true),(25,.int .i64 (180*d)),(24,.int .i64 d),(23,.int .i64 180),(22,.int .i64 n),(21,.bool true),(20,.bool true),(19,.bool true),(18,.int .i64 n),(17,.int .i64 ((-180)*d)),(16,.int .i64 d),(15,.int .i64 (-180)),(14,.int .i64 180),(13,.bool true),(12,.bool true),(11,.bool true),(10,.int .i64 d),(9,.bool true),(8,.bool true),(7,.int .i64 d),(0,.int .i64 n),(1,.int .i64 d),(2,.int .i64 180)]) hF (r_assign (hF.at 0 rfl)) rfl rfl rfl rfl fun a hF=>?_
     refine E.nil ?_
     refine wp_ret ?_
     have bel:=st.bel
     refine bodyPost_ret (res_tmp Tryz.results97 (hF.at 0 rfl)) hF.dfr ?_
     refine⟨rv_bool ?_,bel⟩
     unfold wiB
     first|exact(decide_eq_true (by omega)).symm |exact(decide_eq_false (by omega)).symm |exact decide_eq_decide.2 (by omega)
    ·refine E.opvg hF (r_bin (hF.at 3 rfl) (hF.at 0 rfl) eg_scalar (bi_int (ic_leq (c:=false) (dec_ff hc4)) (by simp))) (wanted_by rfl rfl (hF.at 4 rfl) rfl) rfl rfl rfl fun a hF=>?_
     refine E.opv hF (r_pick_t (hF.at 5 rfl) (hF.at 0 rfl)) rfl rfl rfl rfl fun a hF=>?_
     refine E.opset (L':=[(6,.bool false),(27,.bool false),(26,.bool false),(25,.int .i64 (180*d)),(24,.int .i64 d),(23,.int .i64 180),(22,.int .i64 n),(21,.bool true),(20,.bool true),(19,.bool true),(18,.int .i64 n),(17,.int .i64 ((-180)*d)),(16,.int .i64 d),(15,.int .i64 (-180)),(14,.int .i64 180),(13,.bool true),(12,.bool true),(11,.bool true),(10,.int .i64 d),(9,.bool true),(8,.bool true),(7,.int .i64 d),(0,.int .i64 n),(1,.int .i64 d),(2,.int .i64 180)]) hF (r_assign (hF.at 0 rfl)) rfl rfl rfl rfl fun a hF=>?_
     refine E.nil ?_
     refine wp_ret ?_
     have bel:=st.bel
     refine bodyPost_ret (res_tmp Tryz.results97 (hF.at 0 rfl)) hF.dfr ?_
     refine⟨rv_bool ?_,bel⟩
     unfold wiB
     first|exact(decide_eq_true (by omega)).symm |exact(decide_eq_false (by omega)).symm |exact decide_eq_decide.2 (by omega)
   ·refine E.opvg hF (r_bin (hF.at 1 rfl) (hF.at 0 rfl) eg_scalar (bi_int (ic_leq (c:=false) (dec_ff hc3)) (by simp))) (wanted_by rfl rfl (hF.at 5 rfl) rfl) rfl rfl rfl fun a hF=>?_
    refine E.opv hF (r_pick_t (hF.at 6 rfl) (hF.at 0 rfl)) rfl rfl rfl rfl fun a hF=>?_
    refine E.opv hF (r_move (hF.at 0 rfl)) rfl rfl rfl rfl fun a hF=>?_
    refine E.unwanted hF (wanted_by rfl rfl (hF.at 0 rfl) rfl) rfl rfl rfl fun a hF=>?_
    refine E.unwanted hF (wanted_by rfl rfl (hF.at 1 rfl) rfl) rfl rfl rfl fun a hF=>?_
    refine E.unwanted hF (wanted_by rfl rfl (hF.at 2 rfl) rfl) rfl rfl rfl fun a hF=>?_
    refine E.unwanted hF (wanted_by rfl rfl (hF.at 3 rfl) rfl) rfl rfl rfl fun a hF=>?_
    refine E.unwanted hF (wanted_by rfl rfl (hF.at 4 rfl) rfl) rfl rfl rfl fun a hF=>?_
    refine E.opv hF (r_pick_f (hF.at 5 rfl) ev_c) rfl rfl rfl rfl fun a hF=>?_
    refine E.opset (L':=[(6,.bool false),(27,.bool false),(26,undef),(25,undef),(24,undef),(23,undef),(22,undef),(21,.bool false),(20,.bool false),(19,.bool false),(18,.int .i64 n),(17,.int .i64 ((-180)*d)),(16,.int .i64 d),(15,.int .i64 (-180)),(14,.int .i64 180),(13,.bool true),(12,.bool true),(11,.bool true),(10,.int .i64 d),(9,.bool true),(8,.bool true),(7,.int .i64 d),(0,.int .i64 n),(1,.int .i64 d),(2,.int .i64 180)]) hF (r_assign (hF.at 0 rfl)) rfl rfl rfl rfl fun a hF=>?_
    refine E.nil ?_
    refine wp_ret ?_
    have bel:=st.bel
    refine bodyPost_ret (res_tmp Tryz.results97 (hF.at 0 rfl)) hF.dfr ?_
    refine⟨rv_bool ?_,bel⟩
    unfold wiB
    first|exact(decide_eq_true (by omega)).symm |exact(decide_eq_false (by omega)).symm |exact decide_eq_decide.2 (by omega)
  ·refine E.opvg hF (r_bin (hF.at 0 rfl) ev_c eg_scalar (bi_int (ic_leq (c:=false) (dec_ff hc2)) (by simp))) (wanted_by rfl rfl (hF.at 1 rfl) rfl) rfl rfl rfl fun a hF=>?_
   refine E.opv hF (r_pick_t (hF.at 2 rfl) (hF.at 0 rfl)) rfl rfl rfl rfl fun a hF=>?_
   refine E.opv hF (r_move (hF.at 0 rfl)) rfl rfl rfl rfl fun a hF=>?_
   refine E.unwanted hF (wanted_by rfl rfl (hF.at 0 rfl) rfl) rfl rfl rfl fun a hF=>?_
   refine E.unwanted hF (wanted_by rfl rfl (hF.at 1 rfl) rfl) rfl rfl rfl fun a hF=>?_
   refine E.unwanted hF (wanted_by rfl rfl (hF.at 2 rfl) rfl) rfl rfl rfl fun a hF=>?_
   refine E.unwanted hF (wanted_by rfl rfl (hF.at 3 rfl) rfl) rfl rfl rfl fun a hF=>?_
   refine E.unwanted hF (wanted_by rfl rfl (hF.at 4 rfl) rfl) rfl rfl rfl fun a hF=>?_
   refine E.unwanted hF (wanted_by rfl rfl (hF.at 5 rfl) rfl) rfl rfl rfl fun a hF=>?_
   refine E.opv hF (r_pick_f (hF.at 6 rfl) ev_c) rfl rfl rfl rfl fun a hF=>?_
   refine E.opv hF (r_move (hF.at 0 rfl)) rfl rfl rfl rfl fun a hF=>?_
   refine E.unwanted hF (wanted_by rfl rfl (hF.at 0 rfl) rfl) rfl rfl rfl fun a hF=>?_
   refine E.unwanted hF (wanted_by rfl rfl (hF.at 1 rfl) rfl) rfl rfl rfl fun a hF=>?_
   refine E.unwanted hF (wanted_by rfl rfl (hF.at 2 rfl) rfl) rfl rfl rfl fun a hF=>?_
   refine E.unwanted hF (wanted_by rfl rfl (hF.at 3 rfl) rfl) rfl rfl rfl fun a hF=>?_
   refine E.unwanted hF (wanted_by rfl rfl (hF.at 4 rfl) rfl) rfl rfl rfl fun a hF=>?_
   refine E.opv hF (r_pick_f (hF.at 5 rfl) ev_c) rfl rfl rfl rfl fun a hF=>?_
   refine E.opset (L':=[(6,.bool false),(27,.bool false),(26,undef),(25,undef),(24,undef),(23,undef),(22,undef),(21,.bool false),(20,.bool false),(19,undef),(18,undef),(17,undef),(16,undef),(15,undef),(14,undef),(13,.bool false),(12,.bool false),(11,.bool false),(10,.int .i64 d),(9,.bool true),(8,.bool true),(7,.int .i64 d),(0,.int .i64 n),(1,.int .i64 d),(2,.int .i64 180)]) hF (r_assign (hF.at 0 rfl)) rfl rfl rfl rfl fun a hF=>?_
   refine E.nil ?_
   refine wp_ret ?_
   have bel:=st.bel
   refine bodyPost_ret (res_tmp Tryz.results97 (hF.at 0 rfl)) hF.dfr ?_
   refine⟨rv_bool ?_,bel⟩
   unfold wiB
   first|exact(decide_eq_true (by omega)).symm |exact(decide_eq_false (by omega)).symm |exact decide_eq_decide.2 (by omega)
 ·refine E.opv hF (r_bin ev_c (hF.at 0 rfl) eg_scalar (bi_int (ic_leq (c:=false) (dec_ff hc1)) (by simp))) rfl rfl rfl rfl fun a hF=>?_
  refine E.opv hF (r_move (hF.at 0 rfl)) rfl rfl rfl rfl fun a hF=>?_
  refine E.unwanted hF (wanted_by rfl rfl (hF.at 0 rfl) rfl) rfl rfl rfl fun a hF=>?_
  refine E.unwanted hF (wanted_by rfl rfl (hF.at 1 rfl) rfl) rfl rfl rfl fun a hF=>?_
  refine E.opv hF (r_pick_f (hF.at 2 rfl) ev_c) rfl rfl rfl rfl fun a hF=>?_
  refine E.opv hF (r_move (hF.at 0 rfl)) rfl rfl rfl rfl fun a hF=>?_
  refine E.unwanted hF (wanted_by rfl rfl (hF.at 0 rfl) rfl) rfl rfl rfl fun a hF=>?_
  refine E.unwanted hF (wanted_by rfl rfl (hF.at 1 rfl) rfl) rfl rfl rfl fun a hF=>?_
  refine E.unwanted hF (wanted_by rfl rfl (hF.at 2 rfl) rfl) rfl rfl rfl fun a hF=>?_
  refine E.unwanted hF (wanted_by rfl rfl (hF.at 3 rfl) rfl) rfl rfl rfl fun a hF=>?_
  refine E.unwanted hF (wanted_by rfl rfl (hF.at 4 rfl) rfl) rfl rfl rfl fun a hF=>?_
  refine E.unwanted hF (wanted_by rfl rfl (hF.at 5 rfl) rfl) rfl rfl rfl fun a hF=>?_
  refine E.opv hF (r_pick_f (hF.at 6 rfl) ev_c) rfl rfl rfl rfl fun a hF=>?_
  refine E.opv hF (r_move (hF.at 0 rfl)) rfl rfl rfl rfl fun a hF=>?_
  refine E.unwanted hF (wanted_by rfl rfl (hF.at 0 rfl) rfl) rfl rfl rfl fun a hF=>?_
  refine E.unwanted hF (wanted_by rfl rfl (hF.at 1 rfl) rfl) rfl rfl rfl fun a hF=>?_
  refine E.unwanted hF (wanted_by rfl rfl (hF.at 2 rfl) rfl) rfl rfl rfl fun a hF=>?_
  refine E.unwanted hF (wanted_by rfl rfl (hF.at 3 rfl) rfl) rfl rfl rfl fun a hF=>?_
  refine E.unwanted hF (wanted_by rfl rfl (hF.at 4 rfl) rfl) rfl rfl rfl fun a hF=>?_
  refine E.opv hF (r_pick_f (hF.at 5 rfl) ev_c) rfl rfl rfl rfl fun a hF=>?_
  refine E.opset (L':=[(6,.bool false),(27,.bool false),(26,undef),(25,undef),(24,undef),(23,undef),(22,undef),(21,.bool false),(20,.bool false),(19,undef),(18,undef),(17,undef),(16,undef),(15,undef),(14,undef),(13,.bool false),(12,.bool false),(11,undef),(10,undef),(9,.bool false),(8,.bool false),(7,.int .i64 d),(0,.int .i64 n),(1,.int .i64 d),(2,.int .i64 180)]) hF (r_assign (hF.at 0 rfl)) rfl rfl rfl rfl fun a hF=>?_
  refine E.nil ?_
  refine wp_ret ?_
  have bel:=st.bel
  refine bodyPost_ret (res_tmp Tryz.results97 (hF.at 0 rfl)) hF.dfr ?_
  refine⟨rv_bool ?_,bel⟩
  unfold wiB
  first|exact(decide_eq_true (by omega)).symm |exact(decide_eq_false (by omega)).symm |exact decide_eq_decide.2 (by omega)
theorem pCheck_any (xa xb xc xd:Int) (w:World):
 Calls Tryz.prog 32 #[.agg #[.int .i64 xa,.int .i64 xb,.int .i64 xc,.int .i64 xd]] w (ValPost w (.int .i64 (plE xa xb xc xd))):=by
 have st:=St.start w
 refine E.enter (nt:=17) (L:=[(0,.agg #[.int .i64 xa,.int .i64 xb,.int .i64 xc,.int .i64 xd])]) Tryz.func32 rfl rfl rfl (args_cons (i:=0) rfl args_nil) ?_
 intro a hF
 refine wp_seq ?_
 refine E.seq ?_
 refine S.box st hF (hF.at 0 rfl) rfl rfl fun g1 w1 a st hF=>?_
 refine E.opv hF (r_assign ev_c) rfl rfl rfl rfl fun a hF=>?_
 refine E.nil ?_
 refine wp_seq ?_
 refine wp_seq ?_
 refine E.seq ?_
 refine E.opv hF (r_field (hF.at 1 rfl) (fa_Plc_0 (p:=0) rfl)) rfl rfl rfl rfl fun a hF=>?_
 refine E.opv hF (r_load (hF.at 0 rfl) (ldb_i64 (v:= .int .i64 xa) (st.bk 0 rfl) rfl)) rfl rfl rfl rfl fun a hF=>?_
 refine E.opv hF (r_field (hF.at 3 rfl) (fa_Plc_1 (p:=1) rfl)) rfl rfl rfl rfl fun a hF=>?_
 refine E.opv hF (r_load (hF.at 0 rfl) (ldb_i64 (v:= .int .i64 xb) (st.bk 0 rfl) rfl)) rfl rfl rfl rfl fun a hF=>?_
 refine S.callx st hF (r_call Tryz.func97 en97.1 en97.2 (map3 (hF.at 2 rfl) (hF.at 0 rfl) ev_c)) (within60_any xa xb _) rfl rfl rfl rfl fun w2 a st hF=>?_
 by_cases hc3:wiB 60 xa xb=true
 ·refine E.opv hF (r_un (Eq.trans (hF.at 0 rfl) (congrArg Value.bool hc3)) (bn_not _ false rfl)) rfl rfl rfl rfl fun a hF=>?_
  refine E.opv hF (r_move (hF.at 0 rfl)) rfl rfl rfl rfl fun a hF=>?_
  refine E.opvg hF (r_field (hF.at 8 rfl) (fa_Plc_2 (p:=2) rfl)) (wanted_by rfl rfl (hF.at 0 rfl) rfl) rfl rfl rfl fun a hF=>?_
  refine E.opvg hF (r_load (hF.at 0 rfl) (ldb_i64 (v:= .int .i64 xc) (st.bk 0 rfl) rfl)) (wanted_by rfl rfl (hF.at 1 rfl) rfl) rfl rfl rfl fun a hF=>?_
  refine E.opvg hF (r_field (hF.at 10 rfl) (fa_Plc_3 (p:=3) rfl)) (wanted_by rfl rfl (hF.at 2 rfl) rfl) rfl rfl rfl fun a hF=>?_
  refine E.opvg hF (r_load (hF.at 0 rfl) (ldb_i64 (v:= .int .i64 xd) (st.bk 0 rfl) rfl)) (wanted_by rfl rfl (hF.at 3 rfl) rfl) rfl rfl rfl fun a hF=>?_
  refine S.callxg st hF (wanted_by rfl rfl (hF.at 4 rfl) rfl) (r_call Tryz.func97 en97.1 en97.2 (map3 (hF.at 2 rfl) (hF.at 0 rfl) ev_c)) (within180_any xc xd _) rfl rfl rfl fun w4 a st hF=>?_
  by_cases hc5:wiB 180 xc xd=true
  ·refine E.opvg hF (r_un (Eq.trans (hF.at 0 rfl) (congrArg Value.bool hc5)) (bn_not _ false rfl)) (wanted_by rfl rfl (hF.at 5 rfl) rfl) rfl rfl rfl fun a hF=>?_
   refine E.opv hF (r_pick_f (hF.at 6 rfl) (hF.at 0 rfl)) rfl rfl rfl rfl fun a hF=>?_
   refine E.nil ?_
   refine wp_cond_false (hF.at 0 rfl) ?_
   refine wp_skip ?_
   refine E.norm ?_
   refine wp_seq ?_
   refine E.seq ?_
   refine E.opset (L':=[(2,.int .i64 0),(16,.bool false),(15,.bool false),(14,.bool (wiB 180 xc xd)),(13,.int .i64 xd),(12,.pointer (some ⟨g1,3,none⟩)),(11,.int .i64 xc),(10,.pointer (some ⟨g1,2,none⟩)),(9,.bool false),(8,.bool false),(7,.bool (wiB 60 xa xb)),(6,.int .i64 xb),(5,.pointer (some ⟨g1,1,none⟩)),(4,.int .i64 xa),(3,.pointer (some ⟨g1,0,none⟩)),(1,.pointer (some ⟨g1,0,none⟩)),(0,.agg #[.int .i64 xa,.int .i64 xb,.int .i64 xc,.int .i64 xd])]) hF (r_assign ev_c) rfl rfl rfl rfl fun a hF=>?_
   refine E.nil ?_
   refine wp_ret ?_
   have bel:=st.bel
   refine bodyPost_ret (res_tmp Tryz.results32 (hF.at 0 rfl)) hF.dfr ?_
   refine⟨rv_int ?_,bel⟩
   unfold plE
   rw[if_pos ⟨by assumption,by assumption⟩]
  ·refine E.opvg hF (r_un (Eq.trans (hF.at 0 rfl) (congrArg Value.bool (eq_false_of_ne_true hc5))) (bn_not _ true rfl)) (wanted_by rfl rfl (hF.at 5 rfl) rfl) rfl rfl rfl fun a hF=>?_
   refine E.opv hF (r_pick_f (hF.at 6 rfl) (hF.at 0 rfl)) rfl rfl rfl rfl fun a hF=>?_
   refine E.nil ?_
   refine wp_cond_true (hF.at 0 rfl) ?_
   refine wp_seq ?_
   refine E.seq ?_
   refine E.opset (L':=[(2,.int .i64 2),(16,.bool true),(15,.bool true),(14,.bool (wiB 180 xc xd)),(13,.int .i64 xd),(12,.pointer (some ⟨g1,3,none⟩)),(11,.int .i64 xc),(10,.pointer (some ⟨g1,2,none⟩)),(9,.bool false),(8,.bool false),(7,.bool (wiB 60 xa xb)),(6,.int .i64 xb),(5,.pointer (some ⟨g1,1,none⟩)),(4,.int .i64 xa),(3,.pointer (some ⟨g1,0,none⟩)),(1,.pointer (some ⟨g1,0,none⟩)),(0,.agg #[.int .i64 xa,.int .i64 xb,.int .i64 xc,.int .i64 xd])]) hF (r_assign ev_c) rfl rfl rfl rfl fun a hF=>?_
   refine E.nil ?_
   refine wp_ret ?_
   have bel:=st.bel
   refine bodyPost_ret (res_tmp Tryz.results32 (hF.at 0 rfl)) hF.dfr ?_
   refine⟨rv_int ?_,bel⟩
   unfold plE
   rw[if_neg (by rintro⟨e1,e2⟩;simp_all)]
 ·refine E.opv hF (r_un (Eq.trans (hF.at 0 rfl) (congrArg Value.bool (eq_false_of_ne_true hc3))) (bn_not _ true rfl)) rfl rfl rfl rfl fun a hF=>?_
  refine E.opv hF (r_move (hF.at 0 rfl)) rfl rfl rfl rfl fun a hF=>?_
  refine E.unwanted hF (wanted_by rfl rfl (hF.at 0 rfl) rfl) rfl rfl rfl fun a hF=>?_
  refine E.unwanted hF (wanted_by rfl rfl (hF.at 1 rfl) rfl) rfl rfl rfl fun a hF=>?_
  refine E.unwanted hF (wanted_by rfl rfl (hF.at 2 rfl) rfl) rfl rfl rfl fun a hF=>?_
  refine E.unwanted hF (wanted_by rfl rfl (hF.at 3 rfl) rfl) rfl rfl rfl fun a hF=>?_
  refine E.unwanted hF (wanted_by rfl rfl (hF.at 4 rfl) rfl) rfl rfl rfl fun a hF=>?_
  refine E.unwanted hF (wanted_by rfl rfl (hF.at 5 rfl) rfl) rfl rfl rfl fun a hF=>?_
  refine E.opv hF (r_pick_t (hF.at 6 rfl) ev_c) rfl rfl rfl rfl fun a hF=>?_
  refine E.nil ?_
  refine wp_cond_true (hF.at 0 rfl) ?_
  refine wp_seq ?_
  refine E.seq ?_
  refine E.opset (L':=[(2,.int .i64 2),(16,.bool true),(15,undef),(14,undef),(13,undef),(12,undef),(11,undef),(10,undef),(9,.bool true),(8,.bool true),(7,.bool (wiB 60 xa xb)),(6,.int .i64 xb),(5,.pointer (some ⟨g1,1,none⟩)),(4,.int .i64 xa),(3,.pointer (some ⟨g1,0,none⟩)),(1,.pointer (some ⟨g1,0,none⟩)),(0,.agg #[.int .i64 xa,.int .i64 xb,.int .i64 xc,.int .i64 xd])]) hF (r_assign ev_c) rfl rfl rfl rfl fun a hF=>?_
  refine E.nil ?_
  refine wp_ret ?_
  have bel:=st.bel
  refine bodyPost_ret (res_tmp Tryz.results32 (hF.at 0 rfl)) hF.dfr ?_
  refine⟨rv_int ?_,bel⟩
  unfold plE
  rw[if_neg (by rintro⟨e1,e2⟩;simp_all)]
end Go.Proofs.YtnljadejcfgmaaaGreatDoor
