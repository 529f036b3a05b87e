import Derived.Test.YtacnedknihlfnaaKB29
import Derived.Test.YtacnedknihlfnaaKB32
import Derived.Test.YtacnedknihlfnaaKB35
namespace Go.Proofs.Ytacnedknihlfnaa
open Go.RowKit
set_option maxRecDepth 100000
set_option linter.unusedVariables false
set_option maxHeartbeats 8000000
theorem old_walk (n:Int) (w:World):
 Calls Try.prog 12 #[.int .i64 n] w (ValPost w (.bool true)):=by
 have st:=St.start w
 refine E.enter (nt:=42) (L:=[(0,.int .i64 n)]) Try.func12 rfl rfl rfl (args_cons (i:=0) rfl args_nil) ?_
 intro a hF
 refine wp_seq ?_
 refine E.seq ?_
 refine E.opv hF (r_assign ev_c) rfl rfl rfl rfl fun a hF=>?_
 refine E.nil ?_
 refine wp_seq ?_
 refine wp_seq ?_
 refine E.seq ?_
 refine S.callx st hF (r_call Try.func35 en35.1 en35.2 map0) (live_any _) rfl rfl rfl rfl fun w1 a st hF=>?_
 refine E.opv hF (r_un (hF.at 0 rfl) (bn_not _ false rfl)) rfl rfl rfl rfl fun a hF=>?_
 refine E.nil ?_
 refine wp_cond_false (hF.at 0 rfl) ?_
 refine wp_skip ?_
 refine E.norm ?_
 refine wp_seq ?_
 refine E.seq ?_
 refine E.opv hF (r_move (hF.at 3 rfl)) rfl rfl rfl rfl fun a hF=>?_
 refine S.callx st hF (r_call Try.func23 en23.1 en23.2 (map1 (hF.at 0 rfl))) (inD_any n _) rfl rfl rfl rfl fun w2 a st hF=>?_
 have hind:=inD_bd n
 refine E.opv hF (r_assign (hF.at 0 rfl)) rfl rfl rfl rfl fun a hF=>?_
 obtain⟨k,hk⟩:∃k:Int,k=inD n:=⟨_,rfl⟩
 rw[←hk] at hF hind
 have hol:=om_old k
 refine E.nil ?_
 refine wp_seq ?_
 refine E.seq ?_
 refine E.opv hF (r_move (hF.at 0 rfl)) rfl rfl rfl rfl fun a hF=>?_
 by_cases hc3: -3000000≤k∧k≤3000000
 ·first
  |(exfalso;omega)
  |(refine S.callx st hF (r_call Try.func14 en14.1 en14.2 (map1 (hF.at 0 rfl))) (osOf_any k _ (by omega) (by omega)) rfl rfl rfl rfl fun w4 a st hF=>?_
    have hob3:=osM_in (n:=k) (by omega) (by omega)
    have hod3:=osD_bd (k)
    refine E.opv hF (r_move (hF.at 0 rfl)) rfl rfl rfl rfl fun a hF=>?_
    refine E.opv hF (r_extract (v:= .agg #[.int .i64 (osM k/12),.int .i64 (osM k%12+1),.int .i64 (osD k)]) (hF.at 0 rfl) rfl) rfl rfl rfl rfl fun a hF=>?_
    refine E.opv hF (r_extract (v:= .int .i64 0) (hF.at 1 rfl) rfl) rfl rfl rfl rfl fun a hF=>?_
    refine S.new st hF 1 rfl ty_OSD rfl rfl rfl rfl rfl fun g4 w5 a st hF=>?_
    refine E.opv hF (r_assign (hF.at 1 rfl)) rfl rfl rfl rfl fun a hF=>?_
    refine E.nil ?_
    refine wp_seq ?_
    refine E.seq ?_
    refine E.opv hF (r_move (hF.at 7 rfl)) rfl rfl rfl rfl fun a hF=>?_
    refine S.callx st hF (r_call Try.func25 en25.1 en25.2 (map1 (hF.at 0 rfl))) (omOf_any k _ (by omega) (by omega)) rfl rfl rfl rfl fun w6 a st hF=>?_
    have hmd5:=om_day (k)
    have hmj5:=omJ_in (n:=k) (by omega) (by omega)
    have hmu5:=omU_lim (j:=omJ k) (by omega) (by omega)
    refine E.opv hF (r_move (hF.at 0 rfl)) rfl rfl rfl rfl fun a hF=>?_
    refine E.opv hF (r_extract (v:= .agg #[.int .i64 (omU (omJ k)/12),.int .i64 (omU (omJ k)%12+1),.bool (decide (omU (omJ k+1)=omU (omJ k))),.int .i64 (omL k-30*omJ k+1)]) (hF.at 0 rfl) rfl) rfl rfl rfl rfl fun a hF=>?_
    refine E.opv hF (r_extract (v:= .int .i64 0) (hF.at 1 rfl) rfl) rfl rfl rfl rfl fun a hF=>?_
    refine S.new st hF 1 rfl ty_OMD rfl rfl rfl rfl rfl fun g6 w7 a st hF=>?_
    refine E.opv hF (r_assign (hF.at 1 rfl)) rfl rfl rfl rfl fun a hF=>?_
    refine E.nil ?_
    refine wp_seq ?_
    refine E.seq ?_
    refine E.opv hF (r_field (hF.at 1 rfl) (fa_OMD_0 (p:=0) rfl)) rfl rfl rfl rfl fun a hF=>?_
    refine E.opv hF (r_load (hF.at 0 rfl) (ldb_i64 (v:= .int .i64 (omU (omJ k)/12)) (st.bk 0 rfl) rfl)) rfl rfl rfl rfl fun a hF=>?_
    refine E.opv hF (r_bin ev_c (hF.at 0 rfl) eg_scalar (ia_mul (by omega) (by omega))) rfl rfl rfl rfl fun a hF=>?_
    refine E.opv hF (r_field (hF.at 4 rfl) (fa_OMD_1 (p:=1) rfl)) rfl rfl rfl rfl fun a hF=>?_
    refine E.opv hF (r_load (hF.at 0 rfl) (ldb_int (v:= .int .i64 (omU (omJ k)%12+1)) (st.bk 0 rfl) rfl)) rfl rfl rfl rfl fun a hF=>?_
    refine E.opv hF (r_bin (hF.at 2 rfl) (hF.at 0 rfl) eg_scalar (ia_add (by omega) (by omega))) rfl rfl rfl rfl fun a hF=>?_
    refine E.opv hF (r_field (hF.at 14 rfl) (fa_OSD_0 (p:=0) rfl)) rfl rfl rfl rfl fun a hF=>?_
    refine E.opv hF (r_load (hF.at 0 rfl) (ldb_i64 (v:= .int .i64 (osM k/12)) (st.bk 1 rfl) rfl)) rfl rfl rfl rfl fun a hF=>?_
    refine E.opv hF (r_bin ev_c (hF.at 0 rfl) eg_scalar (ia_mul (by omega) (by omega))) rfl rfl rfl rfl fun a hF=>?_
    refine E.opv hF (r_bin (hF.at 3 rfl) (hF.at 0 rfl) eg_scalar (ia_sub (by omega) (by omega))) rfl rfl rfl rfl fun a hF=>?_
    refine E.opv hF (r_field (hF.at 18 rfl) (fa_OSD_1 (p:=1) rfl)) rfl rfl rfl rfl fun a hF=>?_
    refine E.opv hF (r_load (hF.at 0 rfl) (ldb_int (v:= .int .i64 (osM k%12+1)) (st.bk 1 rfl) rfl)) rfl rfl rfl rfl fun a hF=>?_
    refine E.opv hF (r_bin (hF.at 2 rfl) (hF.at 0 rfl) eg_scalar (ia_sub (by omega) (by omega))) rfl rfl rfl rfl fun a hF=>?_
    refine E.opv hF (r_assign (hF.at 0 rfl)) rfl rfl rfl rfl fun a hF=>?_
    refine E.nil ?_
    refine wp_seq ?_
    refine E.seq ?_
    refine E.opv hF (r_move (hF.at 0 rfl)) rfl rfl rfl rfl fun a hF=>?_
    by_cases hc8:(((12*(omU (omJ k)/12))+(omU (omJ k)%12+1))-(12*(osM k/12)))-(osM k%12+1)=0
    ·first
     |(exfalso;omega)
     |(refine E.opv hF (r_bin (hF.at 0 rfl) ev_c eg_scalar (bi_int (ic_eql (c:=true) (dec_tt hc8)) (by simp))) rfl rfl rfl rfl fun a hF=>?_
       refine E.opv hF (r_move (hF.at 0 rfl)) rfl rfl rfl rfl fun a hF=>?_
       refine E.unwanted hF (wanted_by rfl rfl (hF.at 0 rfl) rfl) rfl rfl rfl fun a hF=>?_
       refine E.unwanted hF (wanted_by rfl rfl (hF.at 1 rfl) rfl) rfl rfl rfl fun a hF=>?_
       refine E.opv hF (r_pick_t (hF.at 2 rfl) ev_c) rfl rfl rfl rfl fun a hF=>?_
       refine E.opset (L':=[(2,.bool true),(41,.bool true),(40,undef),(39,undef),(38,.bool true),(37,.bool true),(36,.int .i64 ((((12*(omU (omJ k)/12))+(omU (omJ k)%12+1))-(12*(osM k/12)))-(osM k%12+1))),(8,.int .i64 ((((12*(omU (omJ k)/12))+(omU (omJ k)%12+1))-(12*(osM k/12)))-(osM k%12+1))),(35,.int .i64 ((((12*(omU (omJ k)/12))+(omU (omJ k)%12+1))-(12*(osM k/12)))-(osM k%12+1))),(34,.int .i64 (osM k%12+1)),(33,.pointer (some ⟨g4,1,none⟩)),(32,.int .i64 (((12*(omU (omJ k)/12))+(omU (omJ k)%12+1))-(12*(osM k/12)))),(31,.int .i64 (12*(osM k/12))),(30,.int .i64 (osM k/12)),(29,.pointer (some ⟨g4,0,none⟩)),(28,.int .i64 ((12*(omU (omJ k)/12))+(omU (omJ k)%12+1))),(27,.int .i64 (omU (omJ k)%12+1)),(26,.pointer (some ⟨g6,1,none⟩)),(25,.int .i64 (12*(omU (omJ k)/12))),(24,.int .i64 (omU (omJ k)/12)),(23,.pointer (some ⟨g6,0,none⟩)),(7,.int .i64 0),(6,.pointer (some ⟨g6,0,none⟩)),(22,.int .i64 0),(21,.agg #[.int .i64 (omU (omJ k)/12),.int .i64 (omU (omJ k)%12+1),.bool (decide (omU (omJ k+1)=omU (omJ k))),.int .i64 (omL k-30*omJ k+1)]),(18,.tuple #[.agg #[.int .i64 (omU (omJ k)/12),.int .i64 (omU (omJ k)%12+1),.bool (decide (omU (omJ k+1)=omU (omJ k))),.int .i64 (omL k-30*omJ k+1)],.int .i64 0]),(20,.tuple #[.agg #[.int .i64 (omU (omJ k)/12),.int .i64 (omU (omJ k)%12+1),.bool (decide (omU (omJ k+1)=omU (omJ k))),.int .i64 (omL k-30*omJ k+1)],.int .i64 0]),(19,.int .i64 k),(5,.int .i64 0),(4,.pointer (some ⟨g4,0,none⟩)),(17,.int .i64 0),(16,.agg #[.int .i64 (osM k/12),.int .i64 (osM k%12+1),.int .i64 (osD k)]),(13,.tuple #[.agg #[.int .i64 (osM k/12),.int .i64 (osM k%12+1),.int .i64 (osD k)],.int .i64 0]),(15,.tuple #[.agg #[.int .i64 (osM k/12),.int .i64 (osM k%12+1),.int .i64 (osD k)],.int .i64 0]),(14,.int .i64 k),(3,.int .i64 k),(12,.int .i64 k),(11,.int .i64 n),(10,.bool false),(9,.bool true),(0,.int .i64 n)]) hF (r_assign (hF.at 0 rfl)) rfl rfl rfl rfl fun a hF=>?_
       refine E.nil ?_
       refine wp_ret ?_
       have bel:=st.bel
       refine bodyPost_ret (res_tmp Try.results12 (hF.at 0 rfl)) hF.dfr ?_
       exact⟨rfl,bel⟩)
    ·first
     |(exfalso;omega)
     |(refine E.opv hF (r_bin (hF.at 0 rfl) ev_c eg_scalar (bi_int (ic_eql (c:=false) (dec_ff hc8)) (by simp))) rfl rfl rfl rfl fun a hF=>?_
       refine E.opv hF (r_move (hF.at 0 rfl)) rfl rfl rfl rfl fun a hF=>?_
       refine E.opvg hF (r_move (hF.at 3 rfl)) (wanted_by rfl rfl (hF.at 0 rfl) rfl) rfl rfl rfl fun a hF=>?_
       by_cases hc9:(((12*(omU (omJ k)/12))+(omU (omJ k)%12+1))-(12*(osM k/12)))-(osM k%12+1)=1
       ·first
        |(exfalso;omega)
        |(refine E.opvg hF (r_bin (hF.at 0 rfl) ev_c eg_scalar (bi_int (ic_eql (c:=true) (dec_tt hc9)) (by simp))) (wanted_by rfl rfl (hF.at 1 rfl) rfl) rfl rfl rfl fun a hF=>?_
          refine E.opv hF (r_pick_f (hF.at 2 rfl) (hF.at 0 rfl)) rfl rfl rfl rfl fun a hF=>?_
          refine E.opset (L':=[(2,.bool true),(41,.bool true),(40,.bool true),(39,.int .i64 ((((12*(omU (omJ k)/12))+(omU (omJ k)%12+1))-(12*(osM k/12)))-(osM k%12+1))),(38,.bool false),(37,.bool false),(36,.int .i64 ((((12*(omU (omJ k)/12))+(omU (omJ k)%12+1))-(12*(osM k/12)))-(osM k%12+1))),(8,.int .i64 ((((12*(omU (omJ k)/12))+(omU (omJ k)%12+1))-(12*(osM k/12)))-(osM k%12+1))),(35,.int .i64 ((((12*(omU (omJ k)/12))+(omU (omJ k)%12+1))-(12*(osM k/12)))-(osM k%12+1))),(34,.int .i64 (osM k%12+1)),(33,.pointer (some ⟨g4,1,none⟩)),(32,.int .i64 (((12*(omU (omJ k)/12))+(omU (omJ k)%12+1))-(12*(osM k/12)))),(31,.int .i64 (12*(osM k/12))),(30,.int .i64 (osM k/12)),(29,.pointer (some ⟨g4,0,none⟩)),(28,.int .i64 ((12*(omU (omJ k)/12))+(omU (omJ k)%12+1))),(27,.int .i64 (omU (omJ k)%12+1)),(26,.pointer (some ⟨g6,1,none⟩)),(25,.int .i64 (12*(omU (omJ k)/12))),(24,.int .i64 (omU (omJ k)/12)),(23,.pointer (some ⟨g6,0,none⟩)),(7,.int .i64 0),(6,.pointer (some ⟨g6,0,none⟩)),(22,.int .i64 0),(21,.agg #[.int .i64 (omU (omJ k)/12),.int .i64 (omU (omJ k)%12+1),.bool (decide (omU (omJ k+1)=omU (omJ k))),.int .i64 (omL k-30*omJ k+1)]),(18,.tuple #[.agg #[.int .i64 (omU (omJ k)/12),.int .i64 (omU (omJ k)%12+1),.bool (decide (omU (omJ k+1)=omU (omJ k))),.int .i64 (omL k-30*omJ k+1)],.int .i64 0]),(20,.tuple #[.agg #[.int .i64 (omU (omJ k)/12),.int .i64 (omU (omJ k)%12+1),.bool (decide (omU (omJ k+1)=omU (omJ k))),.int .i64 (omL k-30*omJ k+1)],.int .i64 0]),(19,.int .i64 k),(5,.int .i64 0),(4,.pointer (some ⟨g4,0,none⟩)),(17,.int .i64 0),(16,.agg #[.int .i64 (osM k/12),.int .i64 (osM k%12+1),.int .i64 (osD k)]),(13,.tuple #[.agg #[.int .i64 (osM k/12),.int .i64 (osM k%12+1),.int .i64 (osD k)],.int .i64 0]),(15,.tuple #[.agg #[.int .i64 (osM k/12),.int .i64 (osM k%12+1),.int .i64 (osD k)],.int .i64 0]),(14,.int .i64 k),(3,.int .i64 k),(12,.int .i64 k),(11,.int .i64 n),(10,.bool false),(9,.bool true),(0,.int .i64 n)]) hF (r_assign (hF.at 0 rfl)) rfl rfl rfl rfl fun a hF=>?_
          refine E.nil ?_
          refine wp_ret ?_
          have bel:=st.bel
          refine bodyPost_ret (res_tmp Try.results12 (hF.at 0 rfl)) hF.dfr ?_
          exact⟨rfl,bel⟩)
       ·first
        |(exfalso;omega)
        |(refine E.opvg hF (r_bin (hF.at 0 rfl) ev_c eg_scalar (bi_int (ic_eql (c:=false) (dec_ff hc9)) (by simp))) (wanted_by rfl rfl (hF.at 1 rfl) rfl) rfl rfl rfl fun a hF=>?_
          refine E.opv hF (r_pick_f (hF.at 2 rfl) (hF.at 0 rfl)) rfl rfl rfl rfl fun a hF=>?_
          refine E.opset (L':=[(2,.bool false),(41,.bool false),(40,.bool false),(39,.int .i64 ((((12*(omU (omJ k)/12))+(omU (omJ k)%12+1))-(12*(osM k/12)))-(osM k%12+1))),(38,.bool false),(37,.bool false),(36,.int .i64 ((((12*(omU (omJ k)/12))+(omU (omJ k)%12+1))-(12*(osM k/12)))-(osM k%12+1))),(8,.int .i64 ((((12*(omU (omJ k)/12))+(omU (omJ k)%12+1))-(12*(osM k/12)))-(osM k%12+1))),(35,.int .i64 ((((12*(omU (omJ k)/12))+(omU (omJ k)%12+1))-(12*(osM k/12)))-(osM k%12+1))),(34,.int .i64 (osM k%12+1)),(33,.pointer (some ⟨g4,1,none⟩)),(32,.int .i64 (((12*(omU (omJ k)/12))+(omU (omJ k)%12+1))-(12*(osM k/12)))),(31,.int .i64 (12*(osM k/12))),(30,.int .i64 (osM k/12)),(29,.pointer (some ⟨g4,0,none⟩)),(28,.int .i64 ((12*(omU (omJ k)/12))+(omU (omJ k)%12+1))),(27,.int .i64 (omU (omJ k)%12+1)),(26,.pointer (some ⟨g6,1,none⟩)),(25,.int .i64 (12*(omU (omJ k)/12))),(24,.int .i64 (omU (omJ k)/12)),(23,.pointer (some ⟨g6,0,none⟩)),(7,.int .i64 0),(6,.pointer (some ⟨g6,0,none⟩)),(22,.int .i64 0),(21,.agg #[.int .i64 (omU (omJ k)/12),.int .i64 (omU (omJ k)%12+1),.bool (decide (omU (omJ k+1)=omU (omJ k))),.int .i64 (omL k-30*omJ k+1)]),(18,.tuple #[.agg #[.int .i64 (omU (omJ k)/12),.int .i64 (omU (omJ k)%12+1),.bool (decide (omU (omJ k+1)=omU (omJ k))),.int .i64 (omL k-30*omJ k+1)],.int .i64 0]),(20,.tuple #[.agg #[.int .i64 (omU (omJ k)/12),.int .i64 (omU (omJ k)%12+1),.bool (decide (omU (omJ k+1)=omU (omJ k))),.int .i64 (omL k-30*omJ k+1)],.int .i64 0]),(19,.int .i64 k),(5,.int .i64 0),(4,.pointer (some ⟨g4,0,none⟩)),(17,.int .i64 0),(16,.agg #[.int .i64 (osM k/12),.int .i64 (osM k%12+1),.int .i64 (osD k)]),(13,.tuple #[.agg #[.int .i64 (osM k/12),.int .i64 (osM k%12+1),.int .i64 (osD k)],.int .i64 0]),(15,.tuple #[.agg #[.int .i64 (osM k/12),.int .i64 (osM k%12+1),.int .i64 (osD k)],.int .i64 0]),(14,.int .i64 k),(3,.int .i64 k),(12,.int .i64 k),(11,.int .i64 n),(10,.bool false),(9,.bool true),(0,.int .i64 n)]) hF (r_assign (hF.at 0 rfl)) rfl rfl rfl rfl fun a hF=>?_
          refine E.nil ?_
          refine wp_ret ?_
          have bel:=st.bel
          refine bodyPost_ret (res_tmp Try.results12 (hF.at 0 rfl)) hF.dfr ?_
          exfalso;omega)))
 ·first
  |(exfalso;omega)
  |(refine S.callx st hF (r_call Try.func14 en14.1 en14.2 (map1 (hF.at 0 rfl))) (osOfX_any k _ (by omega)) rfl rfl rfl rfl fun w10 a st hF=>?_
    refine E.opv hF (r_move (hF.at 0 rfl)) rfl rfl rfl rfl fun a hF=>?_
    refine E.opv hF (r_extract (v:= .agg #[.int .i64 0,.int .i64 0,.int .i64 0]) (hF.at 0 rfl) rfl) rfl rfl rfl rfl fun a hF=>?_
    refine E.opv hF (r_extract (v:= .int .i64 2) (hF.at 1 rfl) rfl) rfl rfl rfl rfl fun a hF=>?_
    refine S.new st hF 1 rfl ty_OSD rfl rfl rfl rfl rfl fun g4 w11 a st hF=>?_
    refine E.opv hF (r_assign (hF.at 1 rfl)) rfl rfl rfl rfl fun a hF=>?_
    refine E.nil ?_
    refine wp_seq ?_
    refine E.seq ?_
    refine E.opv hF (r_move (hF.at 7 rfl)) rfl rfl rfl rfl fun a hF=>?_
    refine S.callx st hF (r_call Try.func25 en25.1 en25.2 (map1 (hF.at 0 rfl))) (omOfX_any k _ (by omega)) rfl rfl rfl rfl fun w12 a st hF=>?_
    refine E.opv hF (r_move (hF.at 0 rfl)) rfl rfl rfl rfl fun a hF=>?_
    refine E.opv hF (r_extract (v:= .agg #[.int .i64 0,.int .i64 0,.bool false,.int .i64 0]) (hF.at 0 rfl) rfl) rfl rfl rfl rfl fun a hF=>?_
    refine E.opv hF (r_extract (v:= .int .i64 2) (hF.at 1 rfl) rfl) rfl rfl rfl rfl fun a hF=>?_
    refine S.new st hF 1 rfl ty_OMD rfl rfl rfl rfl rfl fun g6 w13 a st hF=>?_
    refine E.opv hF (r_assign (hF.at 1 rfl)) rfl rfl rfl rfl fun a hF=>?_
    refine E.nil ?_
    refine wp_seq ?_
    refine E.seq ?_
    refine E.opv hF (r_field (hF.at 1 rfl) (fa_OMD_0 (p:=0) rfl)) rfl rfl rfl rfl fun a hF=>?_
    refine E.opv hF (r_load (hF.at 0 rfl) (ldb_i64 (v:= .int .i64 0) (st.bk 0 rfl) rfl)) rfl rfl rfl rfl fun a hF=>?_
    refine E.opv hF (r_bin ev_c (hF.at 0 rfl) eg_scalar (ia_mul (by omega) (by omega))) rfl rfl rfl rfl fun a hF=>?_
    refine E.opv hF (r_field (hF.at 4 rfl) (fa_OMD_1 (p:=1) rfl)) rfl rfl rfl rfl fun a hF=>?_
    refine E.opv hF (r_load (hF.at 0 rfl) (ldb_int (v:= .int .i64 0) (st.bk 0 rfl) rfl)) rfl rfl rfl rfl fun a hF=>?_
    refine E.opv hF (r_bin (hF.at 2 rfl) (hF.at 0 rfl) eg_scalar (ia_add (by omega) (by omega))) rfl rfl rfl rfl fun a hF=>?_
    refine E.opv hF (r_field (hF.at 14 rfl) (fa_OSD_0 (p:=0) rfl)) rfl rfl rfl rfl fun a hF=>?_
    refine E.opv hF (r_load (hF.at 0 rfl) (ldb_i64 (v:= .int .i64 0) (st.bk 1 rfl) rfl)) rfl rfl rfl rfl fun a hF=>?_
    refine E.opv hF (r_bin ev_c (hF.at 0 rfl) eg_scalar (ia_mul (by omega) (by omega))) rfl rfl rfl rfl fun a hF=>?_
    refine E.opv hF (r_bin (hF.at 3 rfl) (hF.at 0 rfl) eg_scalar (ia_sub (by omega) (by omega))) rfl rfl rfl rfl fun a hF=>?_
    refine E.opv hF (r_field (hF.at 18 rfl) (fa_OSD_1 (p:=1) rfl)) rfl rfl rfl rfl fun a hF=>?_
    refine E.opv hF (r_load (hF.at 0 rfl) (ldb_int (v:= .int .i64 0) (st.bk 1 rfl) rfl)) rfl rfl rfl rfl fun a hF=>?_
    refine E.opv hF (r_bin (hF.at 2 rfl) (hF.at 0 rfl) eg_scalar (ia_sub (by omega) (by omega))) rfl rfl rfl rfl fun a hF=>?_
    refine E.opv hF (r_assign (hF.at 0 rfl)) rfl rfl rfl rfl fun a hF=>?_
    refine E.nil ?_
    refine wp_seq ?_
    refine E.seq ?_
    refine E.opv hF (r_move (hF.at 0 rfl)) rfl rfl rfl rfl fun a hF=>?_
    by_cases hc14:(((12*0)+0)-(12*0))-0=0
    ·first
     |(exfalso;omega)
     |(refine E.opv hF (r_bin (hF.at 0 rfl) ev_c eg_scalar (bi_int (ic_eql (c:=true) (dec_tt hc14)) (by simp))) rfl rfl rfl rfl fun a hF=>?_
       refine E.opv hF (r_move (hF.at 0 rfl)) rfl rfl rfl rfl fun a hF=>?_
       refine E.unwanted hF (wanted_by rfl rfl (hF.at 0 rfl) rfl) rfl rfl rfl fun a hF=>?_
       refine E.unwanted hF (wanted_by rfl rfl (hF.at 1 rfl) rfl) rfl rfl rfl fun a hF=>?_
       refine E.opv hF (r_pick_t (hF.at 2 rfl) ev_c) rfl rfl rfl rfl fun a hF=>?_
       refine E.opset (L':=[(2,.bool true),(41,.bool true),(40,undef),(39,undef),(38,.bool true),(37,.bool true),(36,.int .i64 ((((12*0)+0)-(12*0))-0)),(8,.int .i64 ((((12*0)+0)-(12*0))-0)),(35,.int .i64 ((((12*0)+0)-(12*0))-0)),(34,.int .i64 0),(33,.pointer (some ⟨g4,1,none⟩)),(32,.int .i64 (((12*0)+0)-(12*0))),(31,.int .i64 (12*0)),(30,.int .i64 0),(29,.pointer (some ⟨g4,0,none⟩)),(28,.int .i64 ((12*0)+0)),(27,.int .i64 0),(26,.pointer (some ⟨g6,1,none⟩)),(25,.int .i64 (12*0)),(24,.int .i64 0),(23,.pointer (some ⟨g6,0,none⟩)),(7,.int .i64 2),(6,.pointer (some ⟨g6,0,none⟩)),(22,.int .i64 2),(21,.agg #[.int .i64 0,.int .i64 0,.bool false,.int .i64 0]),(18,.tuple #[.agg #[.int .i64 0,.int .i64 0,.bool false,.int .i64 0],.int .i64 2]),(20,.tuple #[.agg #[.int .i64 0,.int .i64 0,.bool false,.int .i64 0],.int .i64 2]),(19,.int .i64 k),(5,.int .i64 2),(4,.pointer (some ⟨g4,0,none⟩)),(17,.int .i64 2),(16,.agg #[.int .i64 0,.int .i64 0,.int .i64 0]),(13,.tuple #[.agg #[.int .i64 0,.int .i64 0,.int .i64 0],.int .i64 2]),(15,.tuple #[.agg #[.int .i64 0,.int .i64 0,.int .i64 0],.int .i64 2]),(14,.int .i64 k),(3,.int .i64 k),(12,.int .i64 k),(11,.int .i64 n),(10,.bool false),(9,.bool true),(0,.int .i64 n)]) hF (r_assign (hF.at 0 rfl)) rfl rfl rfl rfl fun a hF=>?_
       refine E.nil ?_
       refine wp_ret ?_
       have bel:=st.bel
       refine bodyPost_ret (res_tmp Try.results12 (hF.at 0 rfl)) hF.dfr ?_
       exact⟨rfl,bel⟩)
    ·first
     |(exfalso;omega)
     |(refine E.opv hF (r_bin (hF.at 0 rfl) ev_c eg_scalar (bi_int (ic_eql (c:=false) (dec_ff hc14)) (by simp))) rfl rfl rfl rfl fun a hF=>?_
       refine E.opv hF (r_move (hF.at 0 rfl)) rfl rfl rfl rfl fun a hF=>?_
       refine E.opvg hF (r_move (hF.at 3 rfl)) (wanted_by rfl rfl (hF.at 0 rfl) rfl) rfl rfl rfl fun a hF=>?_
       by_cases hc15:(((12*0)+0)-(12*0))-0=1
       ·first
        |(exfalso;omega)
        |(refine E.opvg hF (r_bin (hF.at 0 rfl) ev_c eg_scalar (bi_int (ic_eql (c:=true) (dec_tt hc15)) (by simp))) (wanted_by rfl rfl (hF.at 1 rfl) rfl) rfl rfl rfl fun a hF=>?_
          refine E.opv hF (r_pick_f (hF.at 2 rfl) (hF.at 0 rfl)) rfl rfl rfl rfl fun a hF=>?_
          refine E.opset (L':=[(2,.bool true),(41,.bool true),(40,.bool true),(39,.int .i64 ((((12*0)+0)-(12*0))-0)),(38,.bool false),(37,.bool false),(36,.int .i64 ((((12*0)+0)-(12*0))-0)),(8,.int .i64 ((((12*0)+0)-(12*0))-0)),(35,.int .i64 ((((12*0)+0)-(12*0))-0)),(34,.int .i64 0),(33,.pointer (some ⟨g4,1,none⟩)),(32,.int .i64 (((12*0)+0)-(12*0))),(31,.int .i64 (12*0)),(30,.int .i64 0),(29,.pointer (some ⟨g4,0,none⟩)),(28,.int .i64 ((12*0)+0)),(27,.int .i64 0),(26,.pointer (some ⟨g6,1,none⟩)),(25,.int .i64 (12*0)),(24,.int .i64 0),(23,.pointer (some ⟨g6,0,none⟩)),(7,.int .i64 2),(6,.pointer (some ⟨g6,0,none⟩)),(22,.int .i64 2),(21,.agg #[.int .i64 0,.int .i64 0,.bool false,.int .i64 0]),(18,.tuple #[.agg #[.int .i64 0,.int .i64 0,.bool false,.int .i64 0],.int .i64 2]),(20,.tuple #[.agg #[.int .i64 0,.int .i64 0,.bool false,.int .i64 0],.int .i64 2]),(19,.int .i64 k),(5,.int .i64 2),(4,.pointer (some ⟨g4,0,none⟩)),(17,.int .i64 2),(16,.agg #[.int .i64 0,.int .i64 0,.int .i64 0]),(13,.tuple #[.agg #[.int .i64 0,.int .i64 0,.int .i64 0],.int .i64 2]),(15,.tuple #[.agg #[.int .i64 0,.int .i64 0,.int .i64 0],.int .i64 2]),(14,.int .i64 k),(3,.int .i64 k),(12,.int .i64 k),(11,.int .i64 n),(10,.bool false),(9,.bool true),(0,.int .i64 n)]) hF (r_assign (hF.at 0 rfl)) rfl rfl rfl rfl fun a hF=>?_
          refine E.nil ?_
          refine wp_ret ?_
          have bel:=st.bel
          refine bodyPost_ret (res_tmp Try.results12 (hF.at 0 rfl)) hF.dfr ?_
          exact⟨rfl,bel⟩)
       ·first
        |(exfalso;omega)
        |(refine E.opvg hF (r_bin (hF.at 0 rfl) ev_c eg_scalar (bi_int (ic_eql (c:=false) (dec_ff hc15)) (by simp))) (wanted_by rfl rfl (hF.at 1 rfl) rfl) rfl rfl rfl fun a hF=>?_
          refine E.opv hF (r_pick_f (hF.at 2 rfl) (hF.at 0 rfl)) rfl rfl rfl rfl fun a hF=>?_
          refine E.opset (L':=[(2,.bool false),(41,.bool false),(40,.bool false),(39,.int .i64 ((((12*0)+0)-(12*0))-0)),(38,.bool false),(37,.bool false),(36,.int .i64 ((((12*0)+0)-(12*0))-0)),(8,.int .i64 ((((12*0)+0)-(12*0))-0)),(35,.int .i64 ((((12*0)+0)-(12*0))-0)),(34,.int .i64 0),(33,.pointer (some ⟨g4,1,none⟩)),(32,.int .i64 (((12*0)+0)-(12*0))),(31,.int .i64 (12*0)),(30,.int .i64 0),(29,.pointer (some ⟨g4,0,none⟩)),(28,.int .i64 ((12*0)+0)),(27,.int .i64 0),(26,.pointer (some ⟨g6,1,none⟩)),(25,.int .i64 (12*0)),(24,.int .i64 0),(23,.pointer (some ⟨g6,0,none⟩)),(7,.int .i64 2),(6,.pointer (some ⟨g6,0,none⟩)),(22,.int .i64 2),(21,.agg #[.int .i64 0,.int .i64 0,.bool false,.int .i64 0]),(18,.tuple #[.agg #[.int .i64 0,.int .i64 0,.bool false,.int .i64 0],.int .i64 2]),(20,.tuple #[.agg #[.int .i64 0,.int .i64 0,.bool false,.int .i64 0],.int .i64 2]),(19,.int .i64 k),(5,.int .i64 2),(4,.pointer (some ⟨g4,0,none⟩)),(17,.int .i64 2),(16,.agg #[.int .i64 0,.int .i64 0,.int .i64 0]),(13,.tuple #[.agg #[.int .i64 0,.int .i64 0,.int .i64 0],.int .i64 2]),(15,.tuple #[.agg #[.int .i64 0,.int .i64 0,.int .i64 0],.int .i64 2]),(14,.int .i64 k),(3,.int .i64 k),(12,.int .i64 k),(11,.int .i64 n),(10,.bool false),(9,.bool true),(0,.int .i64 n)]) hF (r_assign (hF.at 0 rfl)) rfl rfl rfl rfl fun a hF=>?_
          refine E.nil ?_
          refine wp_ret ?_
          have bel:=st.bel
          refine bodyPost_ret (res_tmp Try.results12 (hF.at 0 rfl)) hF.dfr ?_
          exfalso;omega)))
end Go.Proofs.Ytacnedknihlfnaa
