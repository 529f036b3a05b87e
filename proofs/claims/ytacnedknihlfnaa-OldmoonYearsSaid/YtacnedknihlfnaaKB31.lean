import Derived.Test.YtacnedknihlfnaaKB29
import Derived.Test.YtacnedknihlfnaaKB30
namespace Go.Proofs.Ytacnedknihlfnaa
open Go.RowKit
set_option maxRecDepth 100000
set_option linter.unusedVariables false
set_option maxHeartbeats 8000000
theorem en56:(Try.f56.name == "runtime.NumGoroutine")=false∧Try.f56.body.isNone=false:=⟨by decide+kernel,by kernel_rfl⟩
theorem en30:(Try.f30.name == "runtime.NumGoroutine")=false∧Try.f30.body.isNone=false:=⟨by decide+kernel,by kernel_rfl⟩
theorem en55:(Try.f55.name == "runtime.NumGoroutine")=false∧Try.f55.body.isNone=false:=⟨by decide+kernel,by kernel_rfl⟩
theorem en33:(Try.f33.name == "runtime.NumGoroutine")=false∧Try.f33.body.isNone=false:=⟨by decide+kernel,by kernel_rfl⟩
theorem en28:(Try.f28.name == "runtime.NumGoroutine")=false∧Try.f28.body.isNone=false:=⟨by decide+kernel,by kernel_rfl⟩
theorem en31:(Try.f31.name == "runtime.NumGoroutine")=false∧Try.f31.body.isNone=false:=⟨by decide+kernel,by kernel_rfl⟩
theorem omQ_bd {n:Int} (h0: -3000000≤n) (h1:n≤3000000): -20000000≤omQ n∧omQ n≤20000000:=by unfold omQ;omega
theorem omL_in {n:Int} (h0: -3000000≤n) (h1:n≤3000000): -10000000≤omL n∧omL n≤10000000:=by unfold omL omQ;omega
theorem r17q_any (n:Int) (w:World) (hn0: -3000000≤n) (hn1:n≤3000000):
 Calls Try.prog 56 #[.int .i64 n] w (ValPost w (.int .i64 (omQ n))):=by
 have st:=St.start w
 refine E.enter (nt:=7) (L:=[(0,.int .i64 n)]) Try.func56 rfl rfl rfl (args_cons (i:=0) rfl args_nil) ?_
 intro a hF
 refine wp_seq ?_
 refine E.seq ?_
 refine E.opv hF (r_assign ev_c) rfl rfl rfl rfl fun a hF=>?_
 refine E.nil ?_
 refine wp_seq ?_
 refine E.seq ?_
 refine E.opv hF (r_move (hF.at 1 rfl)) rfl rfl rfl rfl fun a hF=>?_
 refine E.opv hF (r_bin (hF.at 0 rfl) ev_c eg_scalar (ia_add (by omega) (by omega))) rfl rfl rfl rfl fun a hF=>?_
 refine E.opv hF (r_bin ev_c (hF.at 0 rfl) eg_scalar (ia_mul (by omega) (by omega))) rfl rfl rfl rfl fun a hF=>?_
 refine E.opv hF (r_bin (hF.at 0 rfl) ev_c eg_scalar (ia_add (by omega) (by omega))) rfl rfl rfl rfl fun a hF=>?_
 refine E.opset (L':=[(2,.int .i64 ((4*(n+1132959))+1)),(6,.int .i64 ((4*(n+1132959))+1)),(5,.int .i64 (4*(n+1132959))),(4,.int .i64 (n+1132959)),(3,.int .i64 n),(0,.int .i64 n)]) hF (r_assign (hF.at 0 rfl)) rfl rfl rfl rfl fun a hF=>?_
 refine E.nil ?_
 refine wp_ret ?_
 have bel:=st.bel
 refine bodyPost_ret (res_tmp Try.results56 (hF.at 0 rfl)) hF.dfr ?_
 exact⟨rfl,bel⟩
theorem r17j_any (n:Int) (w:World) (hn0: -3000000≤n) (hn1:n≤3000000):
 Calls Try.prog 30 #[.int .i64 n] w (ValPost w (.int .i64 (omJ n))):=by
 have st:=St.start w
 refine E.enter (nt:=7) (L:=[(0,.int .i64 n)]) Try.func30 rfl rfl rfl (args_cons (i:=0) rfl args_nil) ?_
 intro a hF
 refine wp_seq ?_
 refine E.seq ?_
 refine E.opv hF (r_assign ev_c) rfl rfl rfl rfl fun a hF=>?_
 refine E.nil ?_
 refine wp_seq ?_
 refine E.seq ?_
 refine E.opv hF (r_move (hF.at 1 rfl)) rfl rfl rfl rfl fun a hF=>?_
 refine S.callx st hF (r_call Try.func56 en56.1 en56.2 (map1 (hF.at 0 rfl))) (r17q_any n _ (by omega) (by omega)) rfl rfl rfl rfl fun w1 a st hF=>?_
 have hqb0:=omQ_bd (n:=n) (by omega) (by omega)
 refine E.opv hF (r_bin (hF.at 0 rfl) ev_c eg_scalar (ia_mul (by omega) (by omega))) rfl rfl rfl rfl fun a hF=>?_
 refine S.callx st hF (r_call Try.func34 en34.1 en34.2 (map2 (hF.at 0 rfl) ev_c)) (r16fl_any ((omQ n)*4452778) 525972500 _ (by omega) (by omega) (by omega) (by omega)) rfl rfl rfl rfl fun w2 a st hF=>?_
 refine E.opset (L':=[(2,.int .i64 (((omQ n)*4452778)/525972500)),(6,.int .i64 (((omQ n)*4452778)/525972500)),(5,.int .i64 ((omQ n)*4452778)),(4,.int .i64 (omQ n)),(3,.int .i64 n),(0,.int .i64 n)]) hF (r_assign (hF.at 0 rfl)) rfl rfl rfl rfl fun a hF=>?_
 refine E.nil ?_
 refine wp_ret ?_
 have bel:=st.bel
 refine bodyPost_ret (res_tmp Try.results30 (hF.at 0 rfl)) hF.dfr ?_
 exact⟨rfl,bel⟩
theorem r17l_any (n:Int) (w:World) (hn0: -3000000≤n) (hn1:n≤3000000):
 Calls Try.prog 55 #[.int .i64 n] w (ValPost w (.int .i64 (omL n))):=by
 have st:=St.start w
 refine E.enter (nt:=7) (L:=[(0,.int .i64 n)]) Try.func55 rfl rfl rfl (args_cons (i:=0) rfl args_nil) ?_
 intro a hF
 refine wp_seq ?_
 refine E.seq ?_
 refine E.opv hF (r_assign ev_c) rfl rfl rfl rfl fun a hF=>?_
 refine E.nil ?_
 refine wp_seq ?_
 refine E.seq ?_
 refine E.opv hF (r_move (hF.at 1 rfl)) rfl rfl rfl rfl fun a hF=>?_
 refine S.callx st hF (r_call Try.func56 en56.1 en56.2 (map1 (hF.at 0 rfl))) (r17q_any n _ (by omega) (by omega)) rfl rfl rfl rfl fun w1 a st hF=>?_
 have hqb0:=omQ_bd (n:=n) (by omega) (by omega)
 refine E.opv hF (r_bin (hF.at 0 rfl) ev_c eg_scalar (ia_mul (by omega) (by omega))) rfl rfl rfl rfl fun a hF=>?_
 refine S.callx st hF (r_call Try.func34 en34.1 en34.2 (map2 (hF.at 0 rfl) ev_c)) (r16fl_any ((omQ n)*133583340) 525972500 _ (by omega) (by omega) (by omega) (by omega)) rfl rfl rfl rfl fun w2 a st hF=>?_
 refine E.opset (L':=[(2,.int .i64 (((omQ n)*133583340)/525972500)),(6,.int .i64 (((omQ n)*133583340)/525972500)),(5,.int .i64 ((omQ n)*133583340)),(4,.int .i64 (omQ n)),(3,.int .i64 n),(0,.int .i64 n)]) hF (r_assign (hF.at 0 rfl)) rfl rfl rfl rfl fun a hF=>?_
 refine E.nil ?_
 refine wp_ret ?_
 have bel:=st.bel
 refine bodyPost_ret (res_tmp Try.results55 (hF.at 0 rfl)) hF.dfr ?_
 exact⟨rfl,bel⟩
theorem r17u_any (j:Int) (w:World) (hj0: -4194304≤j) (hj1:j≤4194304):
 Calls Try.prog 33 #[.int .i64 j] w (ValPost w (.int .i64 (omU j))):=by
 have hou:=omU_bd j
 have st:=St.start w
 refine E.enter (nt:=8) (L:=[(0,.int .i64 j)]) Try.func33 rfl rfl rfl (args_cons (i:=0) rfl args_nil) ?_
 intro a hF
 refine wp_seq ?_
 refine E.seq ?_
 refine E.opv hF (r_assign ev_c) rfl rfl rfl rfl fun a hF=>?_
 refine E.nil ?_
 refine wp_seq ?_
 refine E.seq ?_
 refine E.opv hF (r_move (hF.at 1 rfl)) rfl rfl rfl rfl fun a hF=>?_
 refine E.opv hF (r_un (hF.at 0 rfl) (bn_neg (by omega) (by omega))) rfl rfl rfl rfl fun a hF=>?_
 refine E.opv hF (r_bin (hF.at 0 rfl) ev_c eg_scalar (ia_mul (by omega) (by omega))) rfl rfl rfl rfl fun a hF=>?_
 refine S.callx st hF (r_call Try.func34 en34.1 en34.2 (map2 (hF.at 0 rfl) ev_c)) (r16fl_any ((-j)*908880480000) 936815510642 _ (by omega) (by omega) (by omega) (by omega)) rfl rfl rfl rfl fun w1 a st hF=>?_
 refine E.opv hF (r_un (hF.at 0 rfl) (bn_neg (by omega) (by omega))) rfl rfl rfl rfl fun a hF=>?_
 refine E.opset (L':=[(2,.int .i64 (-(((-j)*908880480000)/936815510642))),(7,.int .i64 (-(((-j)*908880480000)/936815510642))),(6,.int .i64 (((-j)*908880480000)/936815510642)),(5,.int .i64 ((-j)*908880480000)),(4,.int .i64 (-j)),(3,.int .i64 j),(0,.int .i64 j)]) hF (r_assign (hF.at 0 rfl)) rfl rfl rfl rfl fun a hF=>?_
 refine E.nil ?_
 refine wp_ret ?_
 have bel:=st.bel
 refine bodyPost_ret (res_tmp Try.results33 (hF.at 0 rfl)) hF.dfr ?_
 exact⟨rv_int (by unfold omU;rw[Int.neg_mul]),bel⟩
theorem r17of_any (n:Int) (w:World) (hn0: -3000000≤n) (hn1:n≤3000000):
 Calls Try.prog 28 #[.int .i64 n] w (ValPost w (.agg #[.int .i64 (omU (omJ n)/12),.int .i64 (omU (omJ n)%12+1),.bool (decide (omU (omJ n+1)=omU (omJ n))),.int .i64 (omL n-30*omJ n+1)])):=by
 have hmj:=omJ_in hn0 hn1
 have hmu:=omU_lim (j:=omJ n) (by omega) (by omega)
 have hml:=omL_in hn0 hn1
 have st:=St.start w
 refine E.enter (nt:=30) (L:=[(0,.int .i64 n)]) Try.func28 rfl rfl rfl (args_cons (i:=0) rfl args_nil) ?_
 intro a hF
 refine wp_seq ?_
 refine E.seq ?_
 refine S.alloc st hF ty_RMD rfl rfl fun g2 w1 a st hF=>?_
 refine E.nil ?_
 refine wp_seq ?_
 refine E.seq ?_
 refine E.opv hF (r_move (hF.at 1 rfl)) rfl rfl rfl rfl fun a hF=>?_
 refine S.callx st hF (r_call Try.func30 en30.1 en30.2 (map1 (hF.at 0 rfl))) (r17j_any n _ (by omega) (by omega)) rfl rfl rfl rfl fun w2 a st hF=>?_
 refine E.opv hF (r_assign (hF.at 0 rfl)) rfl rfl rfl rfl fun a hF=>?_
 refine E.nil ?_
 refine wp_seq ?_
 refine E.seq ?_
 refine E.opv hF (r_move (hF.at 0 rfl)) rfl rfl rfl rfl fun a hF=>?_
 refine S.callx st hF (r_call Try.func33 en33.1 en33.2 (map1 (hF.at 0 rfl))) (r17u_any (omJ n) _ (by omega) (by omega)) rfl rfl rfl rfl fun w3 a st hF=>?_
 have hru2:=omU_in2 (j:=omJ n) (by omega) (by omega)
 refine E.opv hF (r_assign (hF.at 0 rfl)) rfl rfl rfl rfl fun a hF=>?_
 refine E.nil ?_
 refine wp_seq ?_
 refine E.seq ?_
 refine E.opv hF (r_move (hF.at 0 rfl)) rfl rfl rfl rfl fun a hF=>?_
 refine S.callx st hF (r_call Try.func34 en34.1 en34.2 (map2 (hF.at 0 rfl) ev_c)) (r16fl_any (omU (omJ n)) 12 _ (by omega) (by omega) (by omega) (by omega)) rfl rfl rfl rfl fun w4 a st hF=>?_
 refine E.opv hF (r_assign (hF.at 0 rfl)) rfl rfl rfl rfl fun a hF=>?_
 refine E.nil ?_
 refine wp_seq ?_
 refine E.seq ?_
 refine E.opv hF (r_move (hF.at 0 rfl)) rfl rfl rfl rfl fun a hF=>?_
 refine E.opv hF (r_move (hF.at 4 rfl)) rfl rfl rfl rfl fun a hF=>?_
 refine E.opv hF (r_move (hF.at 2 rfl)) rfl rfl rfl rfl fun a hF=>?_
 refine E.opv hF (r_bin ev_c (hF.at 0 rfl) eg_scalar (ia_mul (by omega) (by omega))) rfl rfl rfl rfl fun a hF=>?_
 refine E.opv hF (r_bin (hF.at 2 rfl) (hF.at 0 rfl) eg_scalar (ia_sub (by omega) (by omega))) rfl rfl rfl rfl fun a hF=>?_
 refine E.opv hF (r_bin (hF.at 0 rfl) ev_c eg_scalar (ia_add (by omega) (by omega))) rfl rfl rfl rfl fun a hF=>?_
 refine E.opv hF (r_move (hF.at 12 rfl)) rfl rfl rfl rfl fun a hF=>?_
 refine E.opv hF (r_bin (hF.at 0 rfl) ev_c eg_scalar (ia_add (by omega) (by omega))) rfl rfl rfl rfl fun a hF=>?_
 refine S.callx st hF (r_call Try.func33 en33.1 en33.2 (map1 (hF.at 0 rfl))) (r17u_any ((omJ n)+1) _ (by omega) (by omega)) rfl rfl rfl rfl fun w5 a st hF=>?_
 have hru4:=omU_in2 (j:=(omJ n)+1) (by omega) (by omega)
 refine E.opv hF (r_move (hF.at 12 rfl)) rfl rfl rfl rfl fun a hF=>?_
 refine E.opv hF (r_bin (hF.at 1 rfl) (hF.at 0 rfl) eg_scalar (bi_int (ic_eql (c:=decide (omU ((omJ n)+1)=omU (omJ n))) rfl) (by simp))) rfl rfl rfl rfl fun a hF=>?_
 refine E.opv hF (r_move (hF.at 21 rfl)) rfl rfl rfl rfl fun a hF=>?_
 refine S.callx st hF (r_call Try.func55 en55.1 en55.2 (map1 (hF.at 0 rfl))) (r17l_any n _ (by omega) (by omega)) rfl rfl rfl rfl fun w6 a st hF=>?_
 refine E.opv hF (r_move (hF.at 19 rfl)) rfl rfl rfl rfl fun a hF=>?_
 refine E.opv hF (r_bin ev_c (hF.at 0 rfl) eg_scalar (ia_mul (by omega) (by omega))) rfl rfl rfl rfl fun a hF=>?_
 refine E.opv hF (r_bin (hF.at 2 rfl) (hF.at 0 rfl) eg_scalar (ia_sub (by omega) (by omega))) rfl rfl rfl rfl fun a hF=>?_
 refine E.opv hF (r_bin (hF.at 0 rfl) ev_c eg_scalar (ia_add (by omega) (by omega))) rfl rfl rfl rfl fun a hF=>?_
 refine E.opv hF (r_build (pair4o (hF.at 16 rfl) (hF.at 11 rfl) (hF.at 6 rfl) (hF.at 0 rfl)) (bd_RMD_0123 _ _ _ _ _)) rfl rfl rfl rfl fun a hF=>?_
 refine S.stoI st hF 0 rfl (hF.at 27 rfl) (hF.at 0 rfl) ty_RMD rfl rfl rfl fun w7 a st hF=>?_
 refine E.nil ?_
 refine wp_ret ?_
 refine S.ret Try.results28 st hF (hF.at 27 rfl) 0 rfl ty_RMD rfl hF.dfr ?_
 have bel:=st.bel
 refine⟨?_,bel⟩
 rw[show omU (omJ n)-12*(omU (omJ n)/12)+1=omU (omJ n)%12+1 by omega]
theorem r17fix_any (y m:Int) (l:Bool) (d:Int) (w:World):
 Calls Try.prog 31 #[.agg #[.int .i64 y,.int .i64 m,.bool l,.int .i64 d]] w (ValPost w (.tuple #[.int .i64 (omM y m l d),.int .i64 (omE y m l d)])):=by
 have st:=St.start w
 refine E.enter (nt:=97) (L:=[(0,.agg #[.int .i64 y,.int .i64 m,.bool l,.int .i64 d])]) Try.func31 rfl rfl rfl (args_cons (i:=0) rfl args_nil) ?_
 intro a hF
 refine wp_seq ?_
 refine E.seq ?_
 refine S.box st hF (hF.at 0 rfl) rfl rfl fun g1 w1 a st hF=>?_
 refine E.opv hF (r_assign ev_c) rfl rfl rfl rfl fun a hF=>?_
 refine E.opv hF (r_assign ev_c) rfl rfl rfl rfl fun a hF=>?_
 refine E.nil ?_
 refine wp_seq ?_
 refine wp_seq ?_
 refine E.seq ?_
 refine E.opv hF (r_field (hF.at 2 rfl) (fa_RMD_1 (p:=1) rfl)) rfl rfl rfl rfl fun a hF=>?_
 refine E.opv hF (r_load (hF.at 0 rfl) (ldb_int (v:= .int .i64 m) (st.bk 0 rfl) rfl)) rfl rfl rfl rfl fun a hF=>?_
 by_cases hc2:m<1
 ·first
  |(exfalso;omega)
  |(refine E.opv hF (r_bin (hF.at 0 rfl) ev_c eg_scalar (bi_int (ic_lss (c:=true) (dec_tt hc2)) (by simp))) rfl rfl rfl rfl fun a hF=>?_
    refine E.opv hF (r_move (hF.at 0 rfl)) rfl rfl rfl rfl fun a hF=>?_
    refine E.unwanted hF (wanted_by rfl rfl (hF.at 0 rfl) rfl) rfl rfl rfl fun a hF=>?_
    refine E.unwanted hF (wanted_by rfl rfl (hF.at 1 rfl) rfl) rfl rfl rfl fun a hF=>?_
    refine E.unwanted hF (wanted_by rfl rfl (hF.at 2 rfl) rfl) rfl rfl rfl fun a hF=>?_
    refine E.opv hF (r_pick_t (hF.at 3 rfl) ev_c) rfl rfl rfl rfl fun a hF=>?_
    refine E.opv hF (r_move (hF.at 0 rfl)) rfl rfl rfl rfl fun a hF=>?_
    refine E.unwanted hF (wanted_by rfl rfl (hF.at 0 rfl) rfl) rfl rfl rfl fun a hF=>?_
    refine E.unwanted hF (wanted_by rfl rfl (hF.at 1 rfl) rfl) rfl rfl rfl fun a hF=>?_
    refine E.unwanted hF (wanted_by rfl rfl (hF.at 2 rfl) rfl) rfl rfl rfl fun a hF=>?_
    refine E.opv hF (r_pick_t (hF.at 3 rfl) ev_c) rfl rfl rfl rfl fun a hF=>?_
    refine E.opv hF (r_move (hF.at 0 rfl)) rfl rfl rfl rfl fun a hF=>?_
    refine E.unwanted hF (wanted_by rfl rfl (hF.at 0 rfl) rfl) rfl rfl rfl fun a hF=>?_
    refine E.unwanted hF (wanted_by rfl rfl (hF.at 1 rfl) rfl) rfl rfl rfl fun a hF=>?_
    refine E.unwanted hF (wanted_by rfl rfl (hF.at 2 rfl) rfl) rfl rfl rfl fun a hF=>?_
    refine E.opv hF (r_pick_t (hF.at 3 rfl) ev_c) rfl rfl rfl rfl fun a hF=>?_
    refine E.nil ?_
    refine wp_cond_true (hF.at 0 rfl) ?_
    refine wp_seq ?_
    refine E.seq ?_
    refine E.opset (L':=[(2,.int .i64 0),(27,.bool true),(26,undef),(25,undef),(24,undef),(23,.bool true),(22,.bool true),(21,undef),(20,undef),(19,undef),(18,.bool true),(17,.bool true),(16,undef),(15,undef),(14,undef),(13,.bool true),(12,.bool true),(11,.int .i64 m),(10,.pointer (some ⟨g1,1,none⟩)),(3,.int .i64 0),(1,.pointer (some ⟨g1,0,none⟩)),(0,.agg #[.int .i64 y,.int .i64 m,.bool l,.int .i64 d])]) hF (r_assign ev_c) rfl rfl rfl rfl fun a hF=>?_
    refine E.opset (L':=[(3,.int .i64 4),(2,.int .i64 0),(27,.bool true),(26,undef),(25,undef),(24,undef),(23,.bool true),(22,.bool true),(21,undef),(20,undef),(19,undef),(18,.bool true),(17,.bool true),(16,undef),(15,undef),(14,undef),(13,.bool true),(12,.bool true),(11,.int .i64 m),(10,.pointer (some ⟨g1,1,none⟩)),(1,.pointer (some ⟨g1,0,none⟩)),(0,.agg #[.int .i64 y,.int .i64 m,.bool l,.int .i64 d])]) hF (r_assign ev_c) rfl rfl rfl rfl fun a hF=>?_
    refine E.nil ?_
    refine wp_ret ?_
    have bel:=st.bel
    refine bodyPost_ret (res_tmp2 Try.results31 (hF.at 1 rfl) (hF.at 0 rfl)) hF.dfr ?_
    have hfx:=om_4 (y:=y) (m:=m) (d:=d) (l:=l) (by omega)
    exact⟨rv_int2 hfx.1 hfx.2,bel⟩)
 ·first
  |(exfalso;omega)
  |(refine E.opv hF (r_bin (hF.at 0 rfl) ev_c eg_scalar (bi_int (ic_lss (c:=false) (dec_ff hc2)) (by simp))) rfl rfl rfl rfl fun a hF=>?_
    refine E.opv hF (r_move (hF.at 0 rfl)) rfl rfl rfl rfl fun a hF=>?_
    refine E.opvg hF (r_field (hF.at 6 rfl) (fa_RMD_1 (p:=1) rfl)) (wanted_by rfl rfl (hF.at 0 rfl) rfl) rfl rfl rfl fun a hF=>?_
    refine E.opvg hF (r_load (hF.at 0 rfl) (ldb_int (v:= .int .i64 m) (st.bk 0 rfl) rfl)) (wanted_by rfl rfl (hF.at 1 rfl) rfl) rfl rfl rfl fun a hF=>?_
    by_cases hc3:12<m
    ·first
     |(exfalso;omega)
     |(refine E.opvg hF (r_bin (hF.at 0 rfl) ev_c eg_scalar (bi_int (ic_gtr (c:=true) (dec_tt hc3)) (by simp))) (wanted_by rfl rfl (hF.at 2 rfl) rfl) rfl rfl rfl fun a hF=>?_
       refine E.opv hF (r_pick_f (hF.at 3 rfl) (hF.at 0 rfl)) rfl rfl rfl rfl fun a hF=>?_
       refine E.opv hF (r_move (hF.at 0 rfl)) rfl rfl rfl rfl fun a hF=>?_
       refine E.unwanted hF (wanted_by rfl rfl (hF.at 0 rfl) rfl) rfl rfl rfl fun a hF=>?_
       refine E.unwanted hF (wanted_by rfl rfl (hF.at 1 rfl) rfl) rfl rfl rfl fun a hF=>?_
       refine E.unwanted hF (wanted_by rfl rfl (hF.at 2 rfl) rfl) rfl rfl rfl fun a hF=>?_
       refine E.opv hF (r_pick_t (hF.at 3 rfl) ev_c) rfl rfl rfl rfl fun a hF=>?_
       refine E.opv hF (r_move (hF.at 0 rfl)) rfl rfl rfl rfl fun a hF=>?_
       refine E.unwanted hF (wanted_by rfl rfl (hF.at 0 rfl) rfl) rfl rfl rfl fun a hF=>?_
       refine E.unwanted hF (wanted_by rfl rfl (hF.at 1 rfl) rfl) rfl rfl rfl fun a hF=>?_
       refine E.unwanted hF (wanted_by rfl rfl (hF.at 2 rfl) rfl) rfl rfl rfl fun a hF=>?_
       refine E.opv hF (r_pick_t (hF.at 3 rfl) ev_c) rfl rfl rfl rfl fun a hF=>?_
       refine E.nil ?_
       refine wp_cond_true (hF.at 0 rfl) ?_
       refine wp_seq ?_
       refine E.seq ?_
       refine E.opset (L':=[(2,.int .i64 0),(27,.bool true),(26,undef),(25,undef),(24,undef),(23,.bool true),(22,.bool true),(21,undef),(20,undef),(19,undef),(18,.bool true),(17,.bool true),(16,.bool true),(15,.int .i64 m),(14,.pointer (some ⟨g1,1,none⟩)),(13,.bool false),(12,.bool false),(11,.int .i64 m),(10,.pointer (some ⟨g1,1,none⟩)),(3,.int .i64 0),(1,.pointer (some ⟨g1,0,none⟩)),(0,.agg #[.int .i64 y,.int .i64 m,.bool l,.int .i64 d])]) hF (r_assign ev_c) rfl rfl rfl rfl fun a hF=>?_
       refine E.opset (L':=[(3,.int .i64 4),(2,.int .i64 0),(27,.bool true),(26,undef),(25,undef),(24,undef),(23,.bool true),(22,.bool true),(21,undef),(20,undef),(19,undef),(18,.bool true),(17,.bool true),(16,.bool true),(15,.int .i64 m),(14,.pointer (some ⟨g1,1,none⟩)),(13,.bool false),(12,.bool false),(11,.int .i64 m),(10,.pointer (some ⟨g1,1,none⟩)),(1,.pointer (some ⟨g1,0,none⟩)),(0,.agg #[.int .i64 y,.int .i64 m,.bool l,.int .i64 d])]) hF (r_assign ev_c) rfl rfl rfl rfl fun a hF=>?_
       refine E.nil ?_
       refine wp_ret ?_
       have bel:=st.bel
       refine bodyPost_ret (res_tmp2 Try.results31 (hF.at 1 rfl) (hF.at 0 rfl)) hF.dfr ?_
       have hfx:=om_4 (y:=y) (m:=m) (d:=d) (l:=l) (by omega)
       exact⟨rv_int2 hfx.1 hfx.2,bel⟩)
    ·first
     |(exfalso;omega)
     |(refine E.opvg hF (r_bin (hF.at 0 rfl) ev_c eg_scalar (bi_int (ic_gtr (c:=false) (dec_ff hc3)) (by simp))) (wanted_by rfl rfl (hF.at 2 rfl) rfl) rfl rfl rfl fun a hF=>?_
       refine E.opv hF (r_pick_f (hF.at 3 rfl) (hF.at 0 rfl)) rfl rfl rfl rfl fun a hF=>?_
       refine E.opv hF (r_move (hF.at 0 rfl)) rfl rfl rfl rfl fun a hF=>?_
       refine E.opvg hF (r_field (hF.at 11 rfl) (fa_RMD_3 (p:=3) rfl)) (wanted_by rfl rfl (hF.at 0 rfl) rfl) rfl rfl rfl fun a hF=>?_
       refine E.opvg hF (r_load (hF.at 0 rfl) (ldb_int (v:= .int .i64 d) (st.bk 0 rfl) rfl)) (wanted_by rfl rfl (hF.at 1 rfl) rfl) rfl rfl rfl fun a hF=>?_
       by_cases hc4:d<1
       ·first
        |(exfalso;omega)
        |(refine E.opvg hF (r_bin (hF.at 0 rfl) ev_c eg_scalar (bi_int (ic_lss (c:=true) (dec_tt hc4)) (by simp))) (wanted_by rfl rfl (hF.at 2 rfl) rfl) rfl rfl rfl fun a hF=>?_
          refine E.opv hF (r_pick_f (hF.at 3 rfl) (hF.at 0 rfl)) rfl rfl rfl rfl fun a hF=>?_
          refine E.opv hF (r_move (hF.at 0 rfl)) rfl rfl rfl rfl fun a hF=>?_
          refine E.unwanted hF (wanted_by rfl rfl (hF.at 0 rfl) rfl) rfl rfl rfl fun a hF=>?_
          refine E.unwanted hF (wanted_by rfl rfl (hF.at 1 rfl) rfl) rfl rfl rfl fun a hF=>?_
          refine E.unwanted hF (wanted_by rfl rfl (hF.at 2 rfl) rfl) rfl rfl rfl fun a hF=>?_
          refine E.opv hF (r_pick_t (hF.at 3 rfl) ev_c) rfl rfl rfl rfl fun a hF=>?_
          refine E.nil ?_
          refine wp_cond_true (hF.at 0 rfl) ?_
          refine wp_seq ?_
          refine E.seq ?_
          refine E.opset (L':=[(2,.int .i64 0),(27,.bool true),(26,undef),(25,undef),(24,undef),(23,.bool true),(22,.bool true),(21,.bool true),(20,.int .i64 d),(19,.pointer (some ⟨g1,3,none⟩)),(18,.bool false),(17,.bool false),(16,.bool false),(15,.int .i64 m),(14,.pointer (some ⟨g1,1,none⟩)),(13,.bool false),(12,.bool false),(11,.int .i64 m),(10,.pointer (some ⟨g1,1,none⟩)),(3,.int .i64 0),(1,.pointer (some ⟨g1,0,none⟩)),(0,.agg #[.int .i64 y,.int .i64 m,.bool l,.int .i64 d])]) hF (r_assign ev_c) rfl rfl rfl rfl fun a hF=>?_
          refine E.opset (L':=[(3,.int .i64 4),(2,.int .i64 0),(27,.bool true),(26,undef),(25,undef),(24,undef),(23,.bool true),(22,.bool true),(21,.bool true),(20,.int .i64 d),(19,.pointer (some ⟨g1,3,none⟩)),(18,.bool false),(17,.bool false),(16,.bool false),(15,.int .i64 m),(14,.pointer (some ⟨g1,1,none⟩)),(13,.bool false),(12,.bool false),(11,.int .i64 m),(10,.pointer (some ⟨g1,1,none⟩)),(1,.pointer (some ⟨g1,0,none⟩)),(0,.agg #[.int .i64 y,.int .i64 m,.bool l,.int .i64 d])]) hF (r_assign ev_c) rfl rfl rfl rfl fun a hF=>?_
          refine E.nil ?_
          refine wp_ret ?_
          have bel:=st.bel
          refine bodyPost_ret (res_tmp2 Try.results31 (hF.at 1 rfl) (hF.at 0 rfl)) hF.dfr ?_
          have hfx:=om_4 (y:=y) (m:=m) (d:=d) (l:=l) (by omega)
          exact⟨rv_int2 hfx.1 hfx.2,bel⟩)
       ·first
        |(exfalso;omega)
        |(refine E.opvg hF (r_bin (hF.at 0 rfl) ev_c eg_scalar (bi_int (ic_lss (c:=false) (dec_ff hc4)) (by simp))) (wanted_by rfl rfl (hF.at 2 rfl) rfl) rfl rfl rfl fun a hF=>?_
          refine E.opv hF (r_pick_f (hF.at 3 rfl) (hF.at 0 rfl)) rfl rfl rfl rfl fun a hF=>?_
          refine E.opv hF (r_move (hF.at 0 rfl)) rfl rfl rfl rfl fun a hF=>?_
          refine E.opvg hF (r_field (hF.at 16 rfl) (fa_RMD_3 (p:=3) rfl)) (wanted_by rfl rfl (hF.at 0 rfl) rfl) rfl rfl rfl fun a hF=>?_
          refine E.opvg hF (r_load (hF.at 0 rfl) (ldb_int (v:= .int .i64 d) (st.bk 0 rfl) rfl)) (wanted_by rfl rfl (hF.at 1 rfl) rfl) rfl rfl rfl fun a hF=>?_
          by_cases hc5:30<d
          ·first
           |(exfalso;omega)
           |(refine E.opvg hF (r_bin (hF.at 0 rfl) ev_c eg_scalar (bi_int (ic_gtr (c:=true) (dec_tt hc5)) (by simp))) (wanted_by rfl rfl (hF.at 2 rfl) rfl) rfl rfl rfl fun a hF=>?_
             refine E.opv hF (r_pick_f (hF.at 3 rfl) (hF.at 0 rfl)) rfl rfl rfl rfl fun a hF=>?_
             refine E.nil ?_
             refine wp_cond_true (hF.at 0 rfl) ?_
             refine wp_seq ?_
             refine E.seq ?_
             refine E.opset (L':=[(2,.int .i64 0),(27,.bool true),(26,.bool true),(25,.int .i64 d),(24,.pointer (some ⟨g1,3,none⟩)),(23,.bool false),(22,.bool false),(21,.bool false),(20,.int .i64 d),(19,.pointer (some ⟨g1,3,none⟩)),(18,.bool false),(17,.bool false),(16,.bool false),(15,.int .i64 m),(14,.pointer (some ⟨g1,1,none⟩)),(13,.bool false),(12,.bool false),(11,.int .i64 m),(10,.pointer (some ⟨g1,1,none⟩)),(3,.int .i64 0),(1,.pointer (some ⟨g1,0,none⟩)),(0,.agg #[.int .i64 y,.int .i64 m,.bool l,.int .i64 d])]) hF (r_assign ev_c) rfl rfl rfl rfl fun a hF=>?_
             refine E.opset (L':=[(3,.int .i64 4),(2,.int .i64 0),(27,.bool true),(26,.bool true),(25,.int .i64 d),(24,.pointer (some ⟨g1,3,none⟩)),(23,.bool false),(22,.bool false),(21,.bool false),(20,.int .i64 d),(19,.pointer (some ⟨g1,3,none⟩)),(18,.bool false),(17,.bool false),(16,.bool false),(15,.int .i64 m),(14,.pointer (some ⟨g1,1,none⟩)),(13,.bool false),(12,.bool false),(11,.int .i64 m),(10,.pointer (some ⟨g1,1,none⟩)),(1,.pointer (some ⟨g1,0,none⟩)),(0,.agg #[.int .i64 y,.int .i64 m,.bool l,.int .i64 d])]) hF (r_assign ev_c) rfl rfl rfl rfl fun a hF=>?_
             refine E.nil ?_
             refine wp_ret ?_
             have bel:=st.bel
             refine bodyPost_ret (res_tmp2 Try.results31 (hF.at 1 rfl) (hF.at 0 rfl)) hF.dfr ?_
             have hfx:=om_4 (y:=y) (m:=m) (d:=d) (l:=l) (by omega)
             exact⟨rv_int2 hfx.1 hfx.2,bel⟩)
          ·first
           |(exfalso;omega)
           |(refine E.opvg hF (r_bin (hF.at 0 rfl) ev_c eg_scalar (bi_int (ic_gtr (c:=false) (dec_ff hc5)) (by simp))) (wanted_by rfl rfl (hF.at 2 rfl) rfl) rfl rfl rfl fun a hF=>?_
             refine E.opv hF (r_pick_f (hF.at 3 rfl) (hF.at 0 rfl)) rfl rfl rfl rfl fun a hF=>?_
             refine E.nil ?_
             refine wp_cond_false (hF.at 0 rfl) ?_
             refine wp_skip ?_
             refine E.norm ?_
             refine wp_seq ?_
             refine wp_seq ?_
             refine E.seq ?_
             refine E.opv hF (r_field (hF.at 20 rfl) (fa_RMD_0 (p:=0) rfl)) rfl rfl rfl rfl fun a hF=>?_
             refine E.opv hF (r_load (hF.at 0 rfl) (ldb_int (v:= .int .i64 y) (st.bk 0 rfl) rfl)) rfl rfl rfl rfl fun a hF=>?_
             by_cases hc6:y<(-20000)
             ·first
              |(exfalso;omega)
              |(refine E.opv hF (r_bin (hF.at 0 rfl) ev_c eg_scalar (bi_int (ic_lss (c:=true) (dec_tt hc6)) (by simp))) rfl rfl rfl rfl fun a hF=>?_
                refine E.opv hF (r_move (hF.at 0 rfl)) rfl rfl rfl rfl fun a hF=>?_
                refine E.unwanted hF (wanted_by rfl rfl (hF.at 0 rfl) rfl) rfl rfl rfl fun a hF=>?_
                refine E.unwanted hF (wanted_by rfl rfl (hF.at 1 rfl) rfl) rfl rfl rfl fun a hF=>?_
                refine E.unwanted hF (wanted_by rfl rfl (hF.at 2 rfl) rfl) rfl rfl rfl fun a hF=>?_
                refine E.opv hF (r_pick_t (hF.at 3 rfl) ev_c) rfl rfl rfl rfl fun a hF=>?_
                refine E.nil ?_
                refine wp_cond_true (hF.at 0 rfl) ?_
                refine wp_seq ?_
                refine E.seq ?_
                refine E.opset (L':=[(2,.int .i64 0),(35,.bool true),(34,undef),(33,undef),(32,undef),(31,.bool true),(30,.bool true),(29,.int .i64 y),(28,.pointer (some ⟨g1,0,none⟩)),(27,.bool false),(26,.bool false),(25,.int .i64 d),(24,.pointer (some ⟨g1,3,none⟩)),(23,.bool false),(22,.bool false),(21,.bool false),(20,.int .i64 d),(19,.pointer (some ⟨g1,3,none⟩)),(18,.bool false),(17,.bool false),(16,.bool false),(15,.int .i64 m),(14,.pointer (some ⟨g1,1,none⟩)),(13,.bool false),(12,.bool false),(11,.int .i64 m),(10,.pointer (some ⟨g1,1,none⟩)),(3,.int .i64 0),(1,.pointer (some ⟨g1,0,none⟩)),(0,.agg #[.int .i64 y,.int .i64 m,.bool l,.int .i64 d])]) hF (r_assign ev_c) rfl rfl rfl rfl fun a hF=>?_
                refine E.opset (L':=[(3,.int .i64 2),(2,.int .i64 0),(35,.bool true),(34,undef),(33,undef),(32,undef),(31,.bool true),(30,.bool true),(29,.int .i64 y),(28,.pointer (some ⟨g1,0,none⟩)),(27,.bool false),(26,.bool false),(25,.int .i64 d),(24,.pointer (some ⟨g1,3,none⟩)),(23,.bool false),(22,.bool false),(21,.bool false),(20,.int .i64 d),(19,.pointer (some ⟨g1,3,none⟩)),(18,.bool false),(17,.bool false),(16,.bool false),(15,.int .i64 m),(14,.pointer (some ⟨g1,1,none⟩)),(13,.bool false),(12,.bool false),(11,.int .i64 m),(10,.pointer (some ⟨g1,1,none⟩)),(1,.pointer (some ⟨g1,0,none⟩)),(0,.agg #[.int .i64 y,.int .i64 m,.bool l,.int .i64 d])]) hF (r_assign ev_c) rfl rfl rfl rfl fun a hF=>?_
                refine E.nil ?_
                refine wp_ret ?_
                have bel:=st.bel
                refine bodyPost_ret (res_tmp2 Try.results31 (hF.at 1 rfl) (hF.at 0 rfl)) hF.dfr ?_
                have hfx:=om_2 (y:=y) (m:=m) (d:=d) (l:=l) (by omega) (by omega)
                exact⟨rv_int2 hfx.1 hfx.2,bel⟩)
             ·first
              |(exfalso;omega)
              |(refine E.opv hF (r_bin (hF.at 0 rfl) ev_c eg_scalar (bi_int (ic_lss (c:=false) (dec_ff hc6)) (by simp))) rfl rfl rfl rfl fun a hF=>?_
                refine E.opv hF (r_move (hF.at 0 rfl)) rfl rfl rfl rfl fun a hF=>?_
                refine E.opvg hF (r_field (hF.at 24 rfl) (fa_RMD_0 (p:=0) rfl)) (wanted_by rfl rfl (hF.at 0 rfl) rfl) rfl rfl rfl fun a hF=>?_
                refine E.opvg hF (r_load (hF.at 0 rfl) (ldb_int (v:= .int .i64 y) (st.bk 0 rfl) rfl)) (wanted_by rfl rfl (hF.at 1 rfl) rfl) rfl rfl rfl fun a hF=>?_
                by_cases hc7:20000<y
                ·first
                 |(exfalso;omega)
                 |(refine E.opvg hF (r_bin (hF.at 0 rfl) ev_c eg_scalar (bi_int (ic_gtr (c:=true) (dec_tt hc7)) (by simp))) (wanted_by rfl rfl (hF.at 2 rfl) rfl) rfl rfl rfl fun a hF=>?_
                   refine E.opv hF (r_pick_f (hF.at 3 rfl) (hF.at 0 rfl)) rfl rfl rfl rfl fun a hF=>?_
                   refine E.nil ?_
                   refine wp_cond_true (hF.at 0 rfl) ?_
                   refine wp_seq ?_
                   refine E.seq ?_
                   refine E.opset (L':=[(2,.int .i64 0),(35,.bool true),(34,.bool true),(33,.int .i64 y),(32,.pointer (some ⟨g1,0,none⟩)),(31,.bool false),(30,.bool false),(29,.int .i64 y),(28,.pointer (some ⟨g1,0,none⟩)),(27,.bool false),(26,.bool false),(25,.int .i64 d),(24,.pointer (some ⟨g1,3,none⟩)),(23,.bool false),(22,.bool false),(21,.bool false),(20,.int .i64 d),(19,.pointer (some ⟨g1,3,none⟩)),(18,.bool false),(17,.bool false),(16,.bool false),(15,.int .i64 m),(14,.pointer (some ⟨g1,1,none⟩)),(13,.bool false),(12,.bool false),(11,.int .i64 m),(10,.pointer (some ⟨g1,1,none⟩)),(3,.int .i64 0),(1,.pointer (some ⟨g1,0,none⟩)),(0,.agg #[.int .i64 y,.int .i64 m,.bool l,.int .i64 d])]) hF (r_assign ev_c) rfl rfl rfl rfl fun a hF=>?_
                   refine E.opset (L':=[(3,.int .i64 2),(2,.int .i64 0),(35,.bool true),(34,.bool true),(33,.int .i64 y),(32,.pointer (some ⟨g1,0,none⟩)),(31,.bool false),(30,.bool false),(29,.int .i64 y),(28,.pointer (some ⟨g1,0,none⟩)),(27,.bool false),(26,.bool false),(25,.int .i64 d),(24,.pointer (some ⟨g1,3,none⟩)),(23,.bool false),(22,.bool false),(21,.bool false),(20,.int .i64 d),(19,.pointer (some ⟨g1,3,none⟩)),(18,.bool false),(17,.bool false),(16,.bool false),(15,.int .i64 m),(14,.pointer (some ⟨g1,1,none⟩)),(13,.bool false),(12,.bool false),(11,.int .i64 m),(10,.pointer (some ⟨g1,1,none⟩)),(1,.pointer (some ⟨g1,0,none⟩)),(0,.agg #[.int .i64 y,.int .i64 m,.bool l,.int .i64 d])]) hF (r_assign ev_c) rfl rfl rfl rfl fun a hF=>?_
                   refine E.nil ?_
                   refine wp_ret ?_
                   have bel:=st.bel
                   refine bodyPost_ret (res_tmp2 Try.results31 (hF.at 1 rfl) (hF.at 0 rfl)) hF.dfr ?_
                   have hfx:=om_2 (y:=y) (m:=m) (d:=d) (l:=l) (by omega) (by omega)
                   exact⟨rv_int2 hfx.1 hfx.2,bel⟩)
                ·first
                 |(exfalso;omega)
                 |(refine E.opvg hF (r_bin (hF.at 0 rfl) ev_c eg_scalar (bi_int (ic_gtr (c:=false) (dec_ff hc7)) (by simp))) (wanted_by rfl rfl (hF.at 2 rfl) rfl) rfl rfl rfl fun a hF=>?_
                   refine E.opv hF (r_pick_f (hF.at 3 rfl) (hF.at 0 rfl)) rfl rfl rfl rfl fun a hF=>?_
                   refine E.nil ?_
                   refine wp_cond_false (hF.at 0 rfl) ?_
                   refine wp_skip ?_
                   refine E.norm ?_
                   refine wp_seq ?_
                   refine E.seq ?_
                   refine E.opv hF (r_field (hF.at 28 rfl) (fa_RMD_0 (p:=0) rfl)) rfl rfl rfl rfl fun a hF=>?_
                   refine E.opv hF (r_load (hF.at 0 rfl) (ldb_int (v:= .int .i64 y) (st.bk 0 rfl) rfl)) rfl rfl rfl rfl fun a hF=>?_
                   refine E.opv hF (r_bin ev_c (hF.at 0 rfl) eg_scalar (ia_mul (by omega) (by omega))) rfl rfl rfl rfl fun a hF=>?_
                   refine E.opv hF (r_field (hF.at 31 rfl) (fa_RMD_1 (p:=1) rfl)) rfl rfl rfl rfl fun a hF=>?_
                   refine E.opv hF (r_load (hF.at 0 rfl) (ldb_int (v:= .int .i64 m) (st.bk 0 rfl) rfl)) rfl rfl rfl rfl fun a hF=>?_
                   refine E.opv hF (r_bin (hF.at 2 rfl) (hF.at 0 rfl) eg_scalar (ia_add (by omega) (by omega))) rfl rfl rfl rfl fun a hF=>?_
                   refine E.opv hF (r_bin (hF.at 0 rfl) ev_c eg_scalar (ia_sub (by omega) (by omega))) rfl rfl rfl rfl fun a hF=>?_
                   refine E.opv hF (r_assign (hF.at 0 rfl)) rfl rfl rfl rfl fun a hF=>?_
                   obtain⟨u,hu⟩:∃u:Int,u=((12*y)+m)-1:=⟨_,rfl⟩
                   rw[←hu] at hF
                   refine E.nil ?_
                   refine wp_seq ?_
                   refine E.seq ?_
                   refine E.opv hF (r_move (hF.at 0 rfl)) rfl rfl rfl rfl fun a hF=>?_
                   refine E.opv hF (r_bin (hF.at 0 rfl) ev_c eg_scalar (ia_mul (by omega) (by omega))) rfl rfl rfl rfl fun a hF=>?_
                   refine E.opv hF (r_bin (hF.at 0 rfl) ev_c eg_scalar (ia_mul (by omega) (by omega))) rfl rfl rfl rfl fun a hF=>?_
                   refine S.callx st hF (r_call Try.func34 en34.1 en34.2 (map2 (hF.at 0 rfl) ev_c)) (r16fl_any ((u*210389)*4452778) 908880480000 _ (by omega) (by omega) (by omega) (by omega)) rfl rfl rfl rfl fun w8 a st hF=>?_
                   refine E.opv hF (r_bin (hF.at 0 rfl) ev_c eg_scalar (ia_sub (by omega) (by omega))) rfl rfl rfl rfl fun a hF=>?_
                   refine E.opv hF (r_assign (hF.at 0 rfl)) rfl rfl rfl rfl fun a hF=>?_
                   obtain⟨j0,hj0⟩:∃j0:Int,j0=(((u*210389)*4452778)/908880480000)-3:=⟨_,rfl⟩
                   rw[←hj0] at hF
                   have hj0':j0=omB u-3:=by rw[hj0];unfold omB;omega
                   have hab:=om_about u
                   have hbb:=omB_bd (u:=u) (by omega) (by omega)
                   refine E.nil ?_
                   refine wp_seq ?_
                   refine wp_seq ?_
                   refine E.seq ?_
                   refine E.opv hF (r_assign ev_c) rfl rfl rfl rfl fun a hF=>?_
                   refine E.nil ?_
                   refine wp_block ?_
                   refine E.loop (fun mq a wv=>∃(j:Int) (k:Int),0≤k∧j=omB u-3+k∧j≤omA u∧Fr 97 a [(6,.int .i64 k),(5,.int .i64 j),(4,.int .i64 u),(3,.int .i64 0),(2,.int .i64 0),(1,.pointer (some ⟨g1,0,none⟩))]∧St w wv [(g1,[.int .i64 y,.int .i64 m,.bool l,.int .i64 d])] []∧mq=(omA u-j:Int).toNat) ((omA u-(j0):Int).toNat) ?_ ?_
                   ·exact⟨(j0:Int),(0:Int),(by omega),(by omega),(by omega),Fr.pick (L':=[(6,.int .i64 0),(5,.int .i64 j0),(4,.int .i64 u),(3,.int .i64 0),(2,.int .i64 0),(1,.pointer (some ⟨g1,0,none⟩))]) hF [0,1,7,41,42,43] rfl,st.pick [0] [] rfl rfl (by decide),rfl⟩
                   ·rintro mq a w9 ⟨j,k,hk0,hj,hju,hF,st,hm⟩
                    have hls:=om_less (j:=j) (u:=u)
                    refine wp_seq ?_
                    refine wp_seq ?_
                    refine E.seq ?_
                    refine E.opv hF (r_move (hF.at 0 rfl)) rfl rfl rfl rfl fun a hF=>?_
                    by_cases hc10:k<8
                    ·first
                     |(exfalso;omega)
                     |(refine E.opv hF (r_bin (hF.at 0 rfl) ev_c eg_scalar (bi_int (ic_lss (c:=true) (dec_tt hc10)) (by simp))) rfl rfl rfl rfl fun a hF=>?_
                       refine E.opv hF (r_move (hF.at 0 rfl)) rfl rfl rfl rfl fun a hF=>?_
                       refine E.opvg hF (r_move (hF.at 4 rfl)) (wanted_by rfl rfl (hF.at 0 rfl) rfl) rfl rfl rfl fun a hF=>?_
                       refine S.callxg st hF (wanted_by rfl rfl (hF.at 1 rfl) rfl) (r_call Try.func33 en33.1 en33.2 (map1 (hF.at 0 rfl))) (r17u_any j _ (by omega) (by omega)) rfl rfl rfl fun w11 a st hF=>?_
                       have hru10:=omU_in2 (j:=j) (by omega) (by omega)
                       refine E.opvg hF (r_move (hF.at 7 rfl)) (wanted_by rfl rfl (hF.at 2 rfl) rfl) rfl rfl rfl fun a hF=>?_
                       by_cases hc12:omU j<u
                       ·first
                        |(exfalso;omega)
                        |(refine E.opvg hF (r_bin (hF.at 1 rfl) (hF.at 0 rfl) eg_scalar (bi_int (ic_lss (c:=true) (dec_tt hc12)) (by simp))) (wanted_by rfl rfl (hF.at 3 rfl) rfl) rfl rfl rfl fun a hF=>?_
                          refine E.opv hF (r_pick_t (hF.at 4 rfl) (hF.at 0 rfl)) rfl rfl rfl rfl fun a hF=>?_
                          refine E.nil ?_
                          refine wp_cond_true (hF.at 0 rfl) ?_
                          refine wp_skip ?_
                          refine E.norm ?_
                          refine wp_seq ?_
                          refine wp_block ?_
                          refine E.seq ?_
                          refine E.opv hF (r_move (hF.at 9 rfl)) rfl rfl rfl rfl fun a hF=>?_
                          refine E.opv hF (r_bin (hF.at 0 rfl) ev_c eg_scalar (ia_add (by omega) (by omega))) rfl rfl rfl rfl fun a hF=>?_
                          refine E.opset (L':=[(5,.int .i64 (j+1)),(59,.int .i64 (j+1)),(58,.int .i64 j),(55,.bool true),(54,.bool true),(53,.int .i64 u),(52,.int .i64 (omU j)),(51,.int .i64 j),(50,.bool true),(49,.bool true),(48,.int .i64 k),(6,.int .i64 k),(4,.int .i64 u),(3,.int .i64 0),(2,.int .i64 0),(1,.pointer (some ⟨g1,0,none⟩))]) hF (r_assign (hF.at 0 rfl)) rfl rfl rfl rfl fun a hF=>?_
                          refine E.nil0 ?_
                          refine E.blk ?_
                          refine E.norm ?_
                          refine E.seq ?_
                          refine E.opv hF (r_move (hF.at 11 rfl)) rfl rfl rfl rfl fun a hF=>?_
                          refine E.opv hF (r_bin (hF.at 0 rfl) ev_c eg_scalar (ia_add (by omega) (by omega))) rfl rfl rfl rfl fun a hF=>?_
                          refine E.opset (L':=[(6,.int .i64 (k+1)),(57,.int .i64 (k+1)),(56,.int .i64 k),(5,.int .i64 (j+1)),(59,.int .i64 (j+1)),(58,.int .i64 j),(55,.bool true),(54,.bool true),(53,.int .i64 u),(52,.int .i64 (omU j)),(51,.int .i64 j),(50,.bool true),(49,.bool true),(48,.int .i64 k),(4,.int .i64 u),(3,.int .i64 0),(2,.int .i64 0),(1,.pointer (some ⟨g1,0,none⟩))]) hF (r_assign (hF.at 0 rfl)) rfl rfl rfl rfl fun a hF=>?_
                          refine E.nil0 ?_
                          refine E.norm ?_
                          exact⟨(omA u-(j+1):Int).toNat,by omega,⟨(j+1:Int),(k+1:Int),(by omega),(by omega),(by omega),Fr.pick (L':=[(6,.int .i64 (k+1)),(5,.int .i64 (j+1)),(4,.int .i64 u),(3,.int .i64 0),(2,.int .i64 0),(1,.pointer (some ⟨g1,0,none⟩))]) hF [0,3,14,15,16,17] rfl,st.pick [0] [] rfl rfl (by decide),rfl⟩⟩)
                       ·first
                        |(exfalso;omega)
                        |(refine E.opvg hF (r_bin (hF.at 1 rfl) (hF.at 0 rfl) eg_scalar (bi_int (ic_lss (c:=false) (dec_ff hc12)) (by simp))) (wanted_by rfl rfl (hF.at 3 rfl) rfl) rfl rfl rfl fun a hF=>?_
                          refine E.opv hF (r_pick_t (hF.at 4 rfl) (hF.at 0 rfl)) rfl rfl rfl rfl fun a hF=>?_
                          refine E.nil ?_
                          refine wp_cond_false (hF.at 0 rfl) ?_
                          refine wp_exit ?_
                          refine E.past ?_
                          refine E.past ?_
                          refine E.out (id:=0) ?_
                          refine E.norm ?_
                          refine wp_seq ?_
                          refine wp_seq ?_
                          refine E.seq ?_
                          refine E.opv hF (r_field (hF.at 13 rfl) (fa_RMD_2 (p:=2) rfl)) rfl rfl rfl rfl fun a hF=>?_
                          refine E.opv hF (r_load (hF.at 0 rfl) (ldb_bool (v:= .bool l) (st.bk 0 rfl) rfl)) rfl rfl rfl rfl fun a hF=>?_
                          by_cases hc13:l=true
                          ·first
                           |(exfalso;omega)
                           |(refine E.opv hF (r_un (Eq.trans (hF.at 0 rfl) (congrArg Value.bool hc13)) (bn_not _ false rfl)) rfl rfl rfl rfl fun a hF=>?_
                             refine E.opv hF (r_move (hF.at 0 rfl)) rfl rfl rfl rfl fun a hF=>?_
                             refine E.unwanted hF (wanted_by rfl rfl (hF.at 0 rfl) rfl) rfl rfl rfl fun a hF=>?_
                             refine E.unwanted hF (wanted_by rfl rfl (hF.at 1 rfl) rfl) rfl rfl rfl fun a hF=>?_
                             refine E.unwanted hF (wanted_by rfl rfl (hF.at 2 rfl) rfl) rfl rfl rfl fun a hF=>?_
                             refine E.unwanted hF (wanted_by rfl rfl (hF.at 3 rfl) rfl) rfl rfl rfl fun a hF=>?_
                             refine E.unwanted hF (wanted_by rfl rfl (hF.at 4 rfl) rfl) rfl rfl rfl fun a hF=>?_
                             refine E.opv hF (r_pick_f (hF.at 5 rfl) ev_c) rfl rfl rfl rfl fun a hF=>?_
                             refine E.nil ?_
                             refine wp_cond_false (hF.at 0 rfl) ?_
                             refine wp_skip ?_
                             refine E.norm ?_
                             refine wp_seq ?_
                             refine E.seq ?_
                             refine E.opv hF (r_move (hF.at 19 rfl)) rfl rfl rfl rfl fun a hF=>?_
                             refine E.opv hF (r_bin ev_c (hF.at 0 rfl) eg_scalar (ia_mul (by omega) (by omega))) rfl rfl rfl rfl fun a hF=>?_
                             refine E.opv hF (r_field (hF.at 25 rfl) (fa_RMD_3 (p:=3) rfl)) rfl rfl rfl rfl fun a hF=>?_
                             refine E.opv hF (r_load (hF.at 0 rfl) (ldb_int (v:= .int .i64 d) (st.bk 0 rfl) rfl)) rfl rfl rfl rfl fun a hF=>?_
                             refine E.opv hF (r_bin (hF.at 2 rfl) (hF.at 0 rfl) eg_scalar (ia_add (by omega) (by omega))) rfl rfl rfl rfl fun a hF=>?_
                             refine E.opv hF (r_bin (hF.at 0 rfl) ev_c eg_scalar (ia_sub (by omega) (by omega))) rfl rfl rfl rfl fun a hF=>?_
                             refine E.opv hF (r_assign (hF.at 0 rfl)) rfl rfl rfl rfl fun a hF=>?_
                             have hje:j=omA u:=by omega
                             have hjn:j=omN (12*y+(m-1)) l:=by
                              rw[show 12*y+(m-1)=u by omega,hje]
                              exact om_end (fun h=>absurd h.1 (by rw[hc13];decide))
                             have hjb:=omN_bd (u:=12*y+(m-1)) (l:=l) (by omega) (by omega)
                             refine E.nil ?_
                             refine wp_seq ?_
                             refine E.seq ?_
                             refine E.opv hF (r_move (hF.at 0 rfl)) rfl rfl rfl rfl fun a hF=>?_
                             refine E.opv hF (r_bin ev_c (hF.at 0 rfl) eg_scalar (ia_mul (by omega) (by omega))) rfl rfl rfl rfl fun a hF=>?_
                             refine E.opv hF (r_bin (hF.at 0 rfl) ev_c eg_scalar (ia_sub (by omega) (by omega))) rfl rfl rfl rfl fun a hF=>?_
                             refine E.opv hF (r_un (hF.at 0 rfl) (bn_neg (by omega) (by omega))) rfl rfl rfl rfl fun a hF=>?_
                             refine S.callx st hF (r_call Try.func34 en34.1 en34.2 (map2 (hF.at 0 rfl) ev_c)) (r16fl_any (-((525972500*(((30*j)+d)-1))-133583340)) 534333360 _ (by omega) (by omega) (by omega) (by omega)) rfl rfl rfl rfl fun w14 a st hF=>?_
                             refine E.opv hF (r_un (hF.at 0 rfl) (bn_neg (by omega) (by omega))) rfl rfl rfl rfl fun a hF=>?_
                             refine E.opv hF (r_assign (hF.at 0 rfl)) rfl rfl rfl rfl fun a hF=>?_
                             refine E.nil ?_
                             refine wp_seq ?_
                             refine E.seq ?_
                             refine E.opv hF (r_move (hF.at 0 rfl)) rfl rfl rfl rfl fun a hF=>?_
                             refine E.opv hF (r_bin (hF.at 0 rfl) ev_c eg_scalar (ia_sub (by omega) (by omega))) rfl rfl rfl rfl fun a hF=>?_
                             refine E.opv hF (r_assign (hF.at 0 rfl)) rfl rfl rfl rfl fun a hF=>?_
                             obtain⟨n,hn⟩:∃n:Int,n=(-((-((525972500*(((30*j)+d)-1))-133583340))/534333360))-1132959:=⟨_,rfl⟩
                             rw[←hn] at hF
                             have hnx:n=omX y m l d:=by rw[hn,hjn,Int.add_sub_assoc];rfl
                             refine E.nil ?_
                             refine wp_seq ?_
                             refine wp_seq ?_
                             refine E.seq ?_
                             refine E.opv hF (r_move (hF.at 0 rfl)) rfl rfl rfl rfl fun a hF=>?_
                             by_cases hc15:n<(-3000000)
                             ·first
                              |(exfalso;omega)
                              |(refine E.opv hF (r_bin (hF.at 0 rfl) ev_c eg_scalar (bi_int (ic_lss (c:=true) (dec_tt hc15)) (by simp))) rfl rfl rfl rfl fun a hF=>?_
                                refine E.opv hF (r_move (hF.at 0 rfl)) rfl rfl rfl rfl fun a hF=>?_
                                refine E.unwanted hF (wanted_by rfl rfl (hF.at 0 rfl) rfl) rfl rfl rfl fun a hF=>?_
                                refine E.unwanted hF (wanted_by rfl rfl (hF.at 1 rfl) rfl) rfl rfl rfl fun a hF=>?_
                                refine E.opv hF (r_pick_t (hF.at 2 rfl) ev_c) rfl rfl rfl rfl fun a hF=>?_
                                refine E.nil ?_
                                refine wp_cond_true (hF.at 0 rfl) ?_
                                refine wp_seq ?_
                                refine E.seq ?_
                                refine E.opset (L':=[(2,.int .i64 0),(91,.bool true),(90,undef),(89,undef),(88,.bool true),(87,.bool true),(86,.int .i64 n),(9,.int .i64 n),(85,.int .i64 n),(84,.int .i64 (-((-((525972500*(((30*j)+d)-1))-133583340))/534333360))),(8,.int .i64 (-((-((525972500*(((30*j)+d)-1))-133583340))/534333360))),(83,.int .i64 (-((-((525972500*(((30*j)+d)-1))-133583340))/534333360))),(82,.int .i64 ((-((525972500*(((30*j)+d)-1))-133583340))/534333360)),(81,.int .i64 (-((525972500*(((30*j)+d)-1))-133583340))),(80,.int .i64 ((525972500*(((30*j)+d)-1))-133583340)),(79,.int .i64 (525972500*(((30*j)+d)-1))),(78,.int .i64 (((30*j)+d)-1)),(7,.int .i64 (((30*j)+d)-1)),(77,.int .i64 (((30*j)+d)-1)),(76,.int .i64 ((30*j)+d)),(75,.int .i64 d),(74,.pointer (some ⟨g1,3,none⟩)),(73,.int .i64 (30*j)),(72,.int .i64 j),(69,.bool false),(68,undef),(67,undef),(66,undef),(65,undef),(64,undef),(63,.bool false),(62,.bool false),(61,.bool l),(60,.pointer (some ⟨g1,2,none⟩)),(55,.bool false),(54,.bool false),(53,.int .i64 u),(52,.int .i64 (omU j)),(51,.int .i64 j),(50,.bool true),(49,.bool true),(48,.int .i64 k),(6,.int .i64 k),(5,.int .i64 j),(4,.int .i64 u),(3,.int .i64 0),(1,.pointer (some ⟨g1,0,none⟩))]) hF (r_assign ev_c) rfl rfl rfl rfl fun a hF=>?_
                                refine E.opset (L':=[(3,.int .i64 2),(2,.int .i64 0),(91,.bool true),(90,undef),(89,undef),(88,.bool true),(87,.bool true),(86,.int .i64 n),(9,.int .i64 n),(85,.int .i64 n),(84,.int .i64 (-((-((525972500*(((30*j)+d)-1))-133583340))/534333360))),(8,.int .i64 (-((-((525972500*(((30*j)+d)-1))-133583340))/534333360))),(83,.int .i64 (-((-((525972500*(((30*j)+d)-1))-133583340))/534333360))),(82,.int .i64 ((-((525972500*(((30*j)+d)-1))-133583340))/534333360)),(81,.int .i64 (-((525972500*(((30*j)+d)-1))-133583340))),(80,.int .i64 ((525972500*(((30*j)+d)-1))-133583340)),(79,.int .i64 (525972500*(((30*j)+d)-1))),(78,.int .i64 (((30*j)+d)-1)),(7,.int .i64 (((30*j)+d)-1)),(77,.int .i64 (((30*j)+d)-1)),(76,.int .i64 ((30*j)+d)),(75,.int .i64 d),(74,.pointer (some ⟨g1,3,none⟩)),(73,.int .i64 (30*j)),(72,.int .i64 j),(69,.bool false),(68,undef),(67,undef),(66,undef),(65,undef),(64,undef),(63,.bool false),(62,.bool false),(61,.bool l),(60,.pointer (some ⟨g1,2,none⟩)),(55,.bool false),(54,.bool false),(53,.int .i64 u),(52,.int .i64 (omU j)),(51,.int .i64 j),(50,.bool true),(49,.bool true),(48,.int .i64 k),(6,.int .i64 k),(5,.int .i64 j),(4,.int .i64 u),(1,.pointer (some ⟨g1,0,none⟩))]) hF (r_assign ev_c) rfl rfl rfl rfl fun a hF=>?_
                                refine E.nil ?_
                                refine wp_ret ?_
                                have bel:=st.bel
                                refine bodyPost_ret (res_tmp2 Try.results31 (hF.at 1 rfl) (hF.at 0 rfl)) hF.dfr ?_
                                have hfx:=om_2f hnx (by omega) (by omega) (by omega)
                                exact⟨rv_int2 hfx.1 hfx.2,bel⟩)
                             ·first
                              |(exfalso;omega)
                              |(refine E.opv hF (r_bin (hF.at 0 rfl) ev_c eg_scalar (bi_int (ic_lss (c:=false) (dec_ff hc15)) (by simp))) rfl rfl rfl rfl fun a hF=>?_
                                refine E.opv hF (r_move (hF.at 0 rfl)) rfl rfl rfl rfl fun a hF=>?_
                                refine E.opvg hF (r_move (hF.at 3 rfl)) (wanted_by rfl rfl (hF.at 0 rfl) rfl) rfl rfl rfl fun a hF=>?_
                                by_cases hc16:3000000<n
                                ·first
                                 |(exfalso;omega)
                                 |(refine E.opvg hF (r_bin (hF.at 0 rfl) ev_c eg_scalar (bi_int (ic_gtr (c:=true) (dec_tt hc16)) (by simp))) (wanted_by rfl rfl (hF.at 1 rfl) rfl) rfl rfl rfl fun a hF=>?_
                                   refine E.opv hF (r_pick_f (hF.at 2 rfl) (hF.at 0 rfl)) rfl rfl rfl rfl fun a hF=>?_
                                   refine E.nil ?_
                                   refine wp_cond_true (hF.at 0 rfl) ?_
                                   refine wp_seq ?_
                                   refine E.seq ?_
                                   refine E.opset (L':=[(2,.int .i64 0),(91,.bool true),(90,.bool true),(89,.int .i64 n),(88,.bool false),(87,.bool false),(86,.int .i64 n),(9,.int .i64 n),(85,.int .i64 n),(84,.int .i64 (-((-((525972500*(((30*j)+d)-1))-133583340))/534333360))),(8,.int .i64 (-((-((525972500*(((30*j)+d)-1))-133583340))/534333360))),(83,.int .i64 (-((-((525972500*(((30*j)+d)-1))-133583340))/534333360))),(82,.int .i64 ((-((525972500*(((30*j)+d)-1))-133583340))/534333360)),(81,.int .i64 (-((525972500*(((30*j)+d)-1))-133583340))),(80,.int .i64 ((525972500*(((30*j)+d)-1))-133583340)),(79,.int .i64 (525972500*(((30*j)+d)-1))),(78,.int .i64 (((30*j)+d)-1)),(7,.int .i64 (((30*j)+d)-1)),(77,.int .i64 (((30*j)+d)-1)),(76,.int .i64 ((30*j)+d)),(75,.int .i64 d),(74,.pointer (some ⟨g1,3,none⟩)),(73,.int .i64 (30*j)),(72,.int .i64 j),(69,.bool false),(68,undef),(67,undef),(66,undef),(65,undef),(64,undef),(63,.bool false),(62,.bool false),(61,.bool l),(60,.pointer (some ⟨g1,2,none⟩)),(55,.bool false),(54,.bool false),(53,.int .i64 u),(52,.int .i64 (omU j)),(51,.int .i64 j),(50,.bool true),(49,.bool true),(48,.int .i64 k),(6,.int .i64 k),(5,.int .i64 j),(4,.int .i64 u),(3,.int .i64 0),(1,.pointer (some ⟨g1,0,none⟩))]) hF (r_assign ev_c) rfl rfl rfl rfl fun a hF=>?_
                                   refine E.opset (L':=[(3,.int .i64 2),(2,.int .i64 0),(91,.bool true),(90,.bool true),(89,.int .i64 n),(88,.bool false),(87,.bool false),(86,.int .i64 n),(9,.int .i64 n),(85,.int .i64 n),(84,.int .i64 (-((-((525972500*(((30*j)+d)-1))-133583340))/534333360))),(8,.int .i64 (-((-((525972500*(((30*j)+d)-1))-133583340))/534333360))),(83,.int .i64 (-((-((525972500*(((30*j)+d)-1))-133583340))/534333360))),(82,.int .i64 ((-((525972500*(((30*j)+d)-1))-133583340))/534333360)),(81,.int .i64 (-((525972500*(((30*j)+d)-1))-133583340))),(80,.int .i64 ((525972500*(((30*j)+d)-1))-133583340)),(79,.int .i64 (525972500*(((30*j)+d)-1))),(78,.int .i64 (((30*j)+d)-1)),(7,.int .i64 (((30*j)+d)-1)),(77,.int .i64 (((30*j)+d)-1)),(76,.int .i64 ((30*j)+d)),(75,.int .i64 d),(74,.pointer (some ⟨g1,3,none⟩)),(73,.int .i64 (30*j)),(72,.int .i64 j),(69,.bool false),(68,undef),(67,undef),(66,undef),(65,undef),(64,undef),(63,.bool false),(62,.bool false),(61,.bool l),(60,.pointer (some ⟨g1,2,none⟩)),(55,.bool false),(54,.bool false),(53,.int .i64 u),(52,.int .i64 (omU j)),(51,.int .i64 j),(50,.bool true),(49,.bool true),(48,.int .i64 k),(6,.int .i64 k),(5,.int .i64 j),(4,.int .i64 u),(1,.pointer (some ⟨g1,0,none⟩))]) hF (r_assign ev_c) rfl rfl rfl rfl fun a hF=>?_
                                   refine E.nil ?_
                                   refine wp_ret ?_
                                   have bel:=st.bel
                                   refine bodyPost_ret (res_tmp2 Try.results31 (hF.at 1 rfl) (hF.at 0 rfl)) hF.dfr ?_
                                   have hfx:=om_2f hnx (by omega) (by omega) (by omega)
                                   exact⟨rv_int2 hfx.1 hfx.2,bel⟩)
                                ·first
                                 |(exfalso;omega)
                                 |(refine E.opvg hF (r_bin (hF.at 0 rfl) ev_c eg_scalar (bi_int (ic_gtr (c:=false) (dec_ff hc16)) (by simp))) (wanted_by rfl rfl (hF.at 1 rfl) rfl) rfl rfl rfl fun a hF=>?_
                                   refine E.opv hF (r_pick_f (hF.at 2 rfl) (hF.at 0 rfl)) rfl rfl rfl rfl fun a hF=>?_
                                   refine E.nil ?_
                                   refine wp_cond_false (hF.at 0 rfl) ?_
                                   refine wp_skip ?_
                                   refine E.norm ?_
                                   refine wp_seq ?_
                                   refine wp_seq ?_
                                   by_cases hc17:(omU (omJ n)/12)=y∧(omU (omJ n)%12+1)=m∧(decide (omU (omJ n+1)=omU (omJ n)))=l∧(omL n-30*omJ n+1)=d
                                   ·first
                                    |(exfalso;omega)
                                    |(refine E.drawn 4 mixed hF [92,93,94,95] [(fun _ v=>v= .int .i64 n),(fun _ v=>v= .agg #[.int .i64 (omU (omJ n)/12),.int .i64 (omU (omJ n)%12+1),.bool (decide (omU (omJ n+1)=omU (omJ n))),.int .i64 (omL n-30*omJ n+1)]),(fun _ v=>v= .agg #[.int .i64 y,.int .i64 m,.bool l,.int .i64 d]),(fun _ v=>v= .bool false)] [] (by decide+kernel) (by decide+kernel) rfl rfl rfl ⟨(Mb.eq _),(Mb.eq _),(Mb.eq _),(Mb.eq _),trivial⟩ trivial ⟨?_,?_,?_,?_,trivial⟩ ?_
                                      ·intro a' w' hF' hb hd
                                       exact dv0 (r_move (hF'.at 6 rfl)) rfl rfl rfl
                                      ·intro a' w' hF' hb hd
                                       have e92:=sHe hd 0 92 rfl rfl rfl rfl
                                       exact dcx0 (r_call Try.func28 en28.1 en28.2 (map1 e92)) (r17of_any n _ (by omega) (by omega)) (fun _=>rfl) rfl rfl
                                      ·intro a' w' hF' hb hd
                                       exact dv0 (r_load (hF'.at 46 rfl) (ld_all ty_RMD ((st.bk 0 rfl).below hb) rfl)) rfl rfl rfl
                                      ·intro a' w' hF' hb hd
                                       have e93:=sHe hd 0 93 rfl rfl rfl rfl
                                       have e94:=sHe hd 1 94 rfl rfl rfl rfl
                                       exact dv0 (r_bin e93 e94 eg_RMD (ens_RMD (dec_tt hc17))) rfl rfl rfl
                                      intro a w18 hF bb hall hne
                                      replace st:=st.to bb
                                      have e95:=sSe hall 3 95 rfl rfl
                                      clear hall hne bb
                                      replace hF:=hF.add e95
                                      clear e95
                                      refine E.nil ?_
                                      refine wp_cond_false (hF.at 0 rfl) ?_
                                      refine wp_skip ?_
                                      refine E.norm ?_
                                      refine wp_seq ?_
                                      refine E.seq ?_
                                      refine E.opv hF (r_move (hF.at 7 rfl)) rfl rfl rfl rfl fun a hF=>?_
                                      refine E.opset (L':=[(2,.int .i64 n),(96,.int .i64 n),(95,.bool false),(91,.bool false),(90,.bool false),(89,.int .i64 n),(88,.bool false),(87,.bool false),(86,.int .i64 n),(9,.int .i64 n),(85,.int .i64 n),(84,.int .i64 (-((-((525972500*(((30*j)+d)-1))-133583340))/534333360))),(8,.int .i64 (-((-((525972500*(((30*j)+d)-1))-133583340))/534333360))),(83,.int .i64 (-((-((525972500*(((30*j)+d)-1))-133583340))/534333360))),(82,.int .i64 ((-((525972500*(((30*j)+d)-1))-133583340))/534333360)),(81,.int .i64 (-((525972500*(((30*j)+d)-1))-133583340))),(80,.int .i64 ((525972500*(((30*j)+d)-1))-133583340)),(79,.int .i64 (525972500*(((30*j)+d)-1))),(78,.int .i64 (((30*j)+d)-1)),(7,.int .i64 (((30*j)+d)-1)),(77,.int .i64 (((30*j)+d)-1)),(76,.int .i64 ((30*j)+d)),(75,.int .i64 d),(74,.pointer (some ⟨g1,3,none⟩)),(73,.int .i64 (30*j)),(72,.int .i64 j),(69,.bool false),(68,undef),(67,undef),(66,undef),(65,undef),(64,undef),(63,.bool false),(62,.bool false),(61,.bool l),(60,.pointer (some ⟨g1,2,none⟩)),(55,.bool false),(54,.bool false),(53,.int .i64 u),(52,.int .i64 (omU j)),(51,.int .i64 j),(50,.bool true),(49,.bool true),(48,.int .i64 k),(6,.int .i64 k),(5,.int .i64 j),(4,.int .i64 u),(3,.int .i64 0),(1,.pointer (some ⟨g1,0,none⟩))]) hF (r_assign (hF.at 0 rfl)) rfl rfl rfl rfl fun a hF=>?_
                                      refine E.opset (L':=[(3,.int .i64 0),(2,.int .i64 n),(96,.int .i64 n),(95,.bool false),(91,.bool false),(90,.bool false),(89,.int .i64 n),(88,.bool false),(87,.bool false),(86,.int .i64 n),(9,.int .i64 n),(85,.int .i64 n),(84,.int .i64 (-((-((525972500*(((30*j)+d)-1))-133583340))/534333360))),(8,.int .i64 (-((-((525972500*(((30*j)+d)-1))-133583340))/534333360))),(83,.int .i64 (-((-((525972500*(((30*j)+d)-1))-133583340))/534333360))),(82,.int .i64 ((-((525972500*(((30*j)+d)-1))-133583340))/534333360)),(81,.int .i64 (-((525972500*(((30*j)+d)-1))-133583340))),(80,.int .i64 ((525972500*(((30*j)+d)-1))-133583340)),(79,.int .i64 (525972500*(((30*j)+d)-1))),(78,.int .i64 (((30*j)+d)-1)),(7,.int .i64 (((30*j)+d)-1)),(77,.int .i64 (((30*j)+d)-1)),(76,.int .i64 ((30*j)+d)),(75,.int .i64 d),(74,.pointer (some ⟨g1,3,none⟩)),(73,.int .i64 (30*j)),(72,.int .i64 j),(69,.bool false),(68,undef),(67,undef),(66,undef),(65,undef),(64,undef),(63,.bool false),(62,.bool false),(61,.bool l),(60,.pointer (some ⟨g1,2,none⟩)),(55,.bool false),(54,.bool false),(53,.int .i64 u),(52,.int .i64 (omU j)),(51,.int .i64 j),(50,.bool true),(49,.bool true),(48,.int .i64 k),(6,.int .i64 k),(5,.int .i64 j),(4,.int .i64 u),(1,.pointer (some ⟨g1,0,none⟩))]) hF (r_assign ev_c) rfl rfl rfl rfl fun a hF=>?_
                                      refine E.nil ?_
                                      refine wp_ret ?_
                                      have bel:=st.bel
                                      refine bodyPost_ret (res_tmp2 Try.results31 (hF.at 1 rfl) (hF.at 0 rfl)) hF.dfr ?_
                                      have hfx:=om_0 hnx (by omega) (by omega) (by omega) hc17
                                      exact⟨rv_int2 hfx.1 hfx.2,bel⟩)
                                   ·first
                                    |(exfalso;omega)
                                    |(refine E.drawn 4 mixed hF [92,93,94,95] [(fun _ v=>v= .int .i64 n),(fun _ v=>v= .agg #[.int .i64 (omU (omJ n)/12),.int .i64 (omU (omJ n)%12+1),.bool (decide (omU (omJ n+1)=omU (omJ n))),.int .i64 (omL n-30*omJ n+1)]),(fun _ v=>v= .agg #[.int .i64 y,.int .i64 m,.bool l,.int .i64 d]),(fun _ v=>v= .bool true)] [] (by decide+kernel) (by decide+kernel) rfl rfl rfl ⟨(Mb.eq _),(Mb.eq _),(Mb.eq _),(Mb.eq _),trivial⟩ trivial ⟨?_,?_,?_,?_,trivial⟩ ?_
                                      ·intro a' w' hF' hb hd
                                       exact dv0 (r_move (hF'.at 6 rfl)) rfl rfl rfl
                                      ·intro a' w' hF' hb hd
                                       have e92:=sHe hd 0 92 rfl rfl rfl rfl
                                       exact dcx0 (r_call Try.func28 en28.1 en28.2 (map1 e92)) (r17of_any n _ (by omega) (by omega)) (fun _=>rfl) rfl rfl
                                      ·intro a' w' hF' hb hd
                                       exact dv0 (r_load (hF'.at 46 rfl) (ld_all ty_RMD ((st.bk 0 rfl).below hb) rfl)) rfl rfl rfl
                                      ·intro a' w' hF' hb hd
                                       have e93:=sHe hd 0 93 rfl rfl rfl rfl
                                       have e94:=sHe hd 1 94 rfl rfl rfl rfl
                                       exact dv0 (r_bin e93 e94 eg_RMD (ens_RMD (dec_ff hc17))) rfl rfl rfl
                                      intro a w19 hF bb hall hne
                                      replace st:=st.to bb
                                      have e95:=sSe hall 3 95 rfl rfl
                                      clear hall hne bb
                                      replace hF:=hF.add e95
                                      clear e95
                                      refine E.nil ?_
                                      refine wp_cond_true (hF.at 0 rfl) ?_
                                      refine wp_seq ?_
                                      refine E.seq ?_
                                      refine E.opset (L':=[(2,.int .i64 0),(95,.bool true),(91,.bool false),(90,.bool false),(89,.int .i64 n),(88,.bool false),(87,.bool false),(86,.int .i64 n),(9,.int .i64 n),(85,.int .i64 n),(84,.int .i64 (-((-((525972500*(((30*j)+d)-1))-133583340))/534333360))),(8,.int .i64 (-((-((525972500*(((30*j)+d)-1))-133583340))/534333360))),(83,.int .i64 (-((-((525972500*(((30*j)+d)-1))-133583340))/534333360))),(82,.int .i64 ((-((525972500*(((30*j)+d)-1))-133583340))/534333360)),(81,.int .i64 (-((525972500*(((30*j)+d)-1))-133583340))),(80,.int .i64 ((525972500*(((30*j)+d)-1))-133583340)),(79,.int .i64 (525972500*(((30*j)+d)-1))),(78,.int .i64 (((30*j)+d)-1)),(7,.int .i64 (((30*j)+d)-1)),(77,.int .i64 (((30*j)+d)-1)),(76,.int .i64 ((30*j)+d)),(75,.int .i64 d),(74,.pointer (some ⟨g1,3,none⟩)),(73,.int .i64 (30*j)),(72,.int .i64 j),(69,.bool false),(68,undef),(67,undef),(66,undef),(65,undef),(64,undef),(63,.bool false),(62,.bool false),(61,.bool l),(60,.pointer (some ⟨g1,2,none⟩)),(55,.bool false),(54,.bool false),(53,.int .i64 u),(52,.int .i64 (omU j)),(51,.int .i64 j),(50,.bool true),(49,.bool true),(48,.int .i64 k),(6,.int .i64 k),(5,.int .i64 j),(4,.int .i64 u),(3,.int .i64 0),(1,.pointer (some ⟨g1,0,none⟩))]) hF (r_assign ev_c) rfl rfl rfl rfl fun a hF=>?_
                                      refine E.opset (L':=[(3,.int .i64 3),(2,.int .i64 0),(95,.bool true),(91,.bool false),(90,.bool false),(89,.int .i64 n),(88,.bool false),(87,.bool false),(86,.int .i64 n),(9,.int .i64 n),(85,.int .i64 n),(84,.int .i64 (-((-((525972500*(((30*j)+d)-1))-133583340))/534333360))),(8,.int .i64 (-((-((525972500*(((30*j)+d)-1))-133583340))/534333360))),(83,.int .i64 (-((-((525972500*(((30*j)+d)-1))-133583340))/534333360))),(82,.int .i64 ((-((525972500*(((30*j)+d)-1))-133583340))/534333360)),(81,.int .i64 (-((525972500*(((30*j)+d)-1))-133583340))),(80,.int .i64 ((525972500*(((30*j)+d)-1))-133583340)),(79,.int .i64 (525972500*(((30*j)+d)-1))),(78,.int .i64 (((30*j)+d)-1)),(7,.int .i64 (((30*j)+d)-1)),(77,.int .i64 (((30*j)+d)-1)),(76,.int .i64 ((30*j)+d)),(75,.int .i64 d),(74,.pointer (some ⟨g1,3,none⟩)),(73,.int .i64 (30*j)),(72,.int .i64 j),(69,.bool false),(68,undef),(67,undef),(66,undef),(65,undef),(64,undef),(63,.bool false),(62,.bool false),(61,.bool l),(60,.pointer (some ⟨g1,2,none⟩)),(55,.bool false),(54,.bool false),(53,.int .i64 u),(52,.int .i64 (omU j)),(51,.int .i64 j),(50,.bool true),(49,.bool true),(48,.int .i64 k),(6,.int .i64 k),(5,.int .i64 j),(4,.int .i64 u),(1,.pointer (some ⟨g1,0,none⟩))]) hF (r_assign ev_c) rfl rfl rfl rfl fun a hF=>?_
                                      refine E.nil ?_
                                      refine wp_ret ?_
                                      have bel:=st.bel
                                      refine bodyPost_ret (res_tmp2 Try.results31 (hF.at 1 rfl) (hF.at 0 rfl)) hF.dfr ?_
                                      have hfx:=om_3 hnx (by omega) (by omega) (by omega) hc17
                                      exact⟨rv_int2 hfx.1 hfx.2,bel⟩))))
                          ·first
                           |(exfalso;omega)
                           |(refine E.opv hF (r_un (Eq.trans (hF.at 0 rfl) (congrArg Value.bool (eq_false_of_ne_true hc13))) (bn_not _ true rfl)) rfl rfl rfl rfl fun a hF=>?_
                             refine E.opv hF (r_move (hF.at 0 rfl)) rfl rfl rfl rfl fun a hF=>?_
                             refine E.opvg hF (r_move (hF.at 13 rfl)) (wanted_by rfl rfl (hF.at 0 rfl) rfl) rfl rfl rfl fun a hF=>?_
                             refine E.opvg hF (r_bin (hF.at 0 rfl) ev_c eg_scalar (ia_add (by omega) (by omega))) (wanted_by rfl rfl (hF.at 1 rfl) rfl) rfl rfl rfl fun a hF=>?_
                             refine S.callxg st hF (wanted_by rfl rfl (hF.at 2 rfl) rfl) (r_call Try.func33 en33.1 en33.2 (map1 (hF.at 0 rfl))) (r17u_any (j+1) _ (by omega) (by omega)) rfl rfl rfl fun w20 a st hF=>?_
                             have hru19:=omU_in2 (j:=j+1) (by omega) (by omega)
                             refine E.opvg hF (r_move (hF.at 17 rfl)) (wanted_by rfl rfl (hF.at 3 rfl) rfl) rfl rfl rfl fun a hF=>?_
                             by_cases hc21:omU (j+1)=u
                             ·first
                              |(exfalso;omega)
                              |(refine E.opvg hF (r_bin (hF.at 1 rfl) (hF.at 0 rfl) eg_scalar (bi_int (ic_eql (c:=true) (dec_tt hc21)) (by simp))) (wanted_by rfl rfl (hF.at 4 rfl) rfl) rfl rfl rfl fun a hF=>?_
                                refine E.opv hF (r_pick_t (hF.at 5 rfl) (hF.at 0 rfl)) rfl rfl rfl rfl fun a hF=>?_
                                refine E.nil ?_
                                refine wp_cond_true (hF.at 0 rfl) ?_
                                refine E.seq ?_
                                refine E.opv hF (r_move (hF.at 19 rfl)) rfl rfl rfl rfl fun a hF=>?_
                                refine E.opv hF (r_bin (hF.at 0 rfl) ev_c eg_scalar (ia_add (by omega) (by omega))) rfl rfl rfl rfl fun a hF=>?_
                                refine E.opset (L':=[(5,.int .i64 (j+1)),(71,.int .i64 (j+1)),(70,.int .i64 j),(69,.bool true),(68,.bool true),(67,.int .i64 u),(66,.int .i64 (omU (j+1))),(65,.int .i64 (j+1)),(64,.int .i64 j),(63,.bool true),(62,.bool true),(61,.bool l),(60,.pointer (some ⟨g1,2,none⟩)),(55,.bool false),(54,.bool false),(53,.int .i64 u),(52,.int .i64 (omU j)),(51,.int .i64 j),(50,.bool true),(49,.bool true),(48,.int .i64 k),(6,.int .i64 k),(4,.int .i64 u),(3,.int .i64 0),(2,.int .i64 0),(1,.pointer (some ⟨g1,0,none⟩))]) hF (r_assign (hF.at 0 rfl)) rfl rfl rfl rfl fun a hF=>?_
                                refine E.nil ?_
                                refine wp_seq ?_
                                refine E.seq ?_
                                refine E.opv hF (r_move (hF.at 0 rfl)) rfl rfl rfl rfl fun a hF=>?_
                                refine E.opv hF (r_bin ev_c (hF.at 0 rfl) eg_scalar (ia_mul (by omega) (by omega))) rfl rfl rfl rfl fun a hF=>?_
                                refine E.opv hF (r_field (hF.at 27 rfl) (fa_RMD_3 (p:=3) rfl)) rfl rfl rfl rfl fun a hF=>?_
                                refine E.opv hF (r_load (hF.at 0 rfl) (ldb_int (v:= .int .i64 d) (st.bk 0 rfl) rfl)) rfl rfl rfl rfl fun a hF=>?_
                                refine E.opv hF (r_bin (hF.at 2 rfl) (hF.at 0 rfl) eg_scalar (ia_add (by omega) (by omega))) rfl rfl rfl rfl fun a hF=>?_
                                refine E.opv hF (r_bin (hF.at 0 rfl) ev_c eg_scalar (ia_sub (by omega) (by omega))) rfl rfl rfl rfl fun a hF=>?_
                                refine E.opv hF (r_assign (hF.at 0 rfl)) rfl rfl rfl rfl fun a hF=>?_
                                have hje:j=omA u:=by omega
                                have hjn:j+1=omN (12*y+(m-1)) l:=by
                                 rw[show 12*y+(m-1)=u by omega,hje]
                                 exact om_end2 (eq_false_of_ne_true hc13) (by rw[←hje];exact hc21)
                                have hjb:=omN_bd (u:=12*y+(m-1)) (l:=l) (by omega) (by omega)
                                refine E.nil ?_
                                refine wp_seq ?_
                                refine E.seq ?_
                                refine E.opv hF (r_move (hF.at 0 rfl)) rfl rfl rfl rfl fun a hF=>?_
                                refine E.opv hF (r_bin ev_c (hF.at 0 rfl) eg_scalar (ia_mul (by omega) (by omega))) rfl rfl rfl rfl fun a hF=>?_
                                refine E.opv hF (r_bin (hF.at 0 rfl) ev_c eg_scalar (ia_sub (by omega) (by omega))) rfl rfl rfl rfl fun a hF=>?_
                                refine E.opv hF (r_un (hF.at 0 rfl) (bn_neg (by omega) (by omega))) rfl rfl rfl rfl fun a hF=>?_
                                refine S.callx st hF (r_call Try.func34 en34.1 en34.2 (map2 (hF.at 0 rfl) ev_c)) (r16fl_any (-((525972500*(((30*(j+1))+d)-1))-133583340)) 534333360 _ (by omega) (by omega) (by omega) (by omega)) rfl rfl rfl rfl fun w22 a st hF=>?_
                                refine E.opv hF (r_un (hF.at 0 rfl) (bn_neg (by omega) (by omega))) rfl rfl rfl rfl fun a hF=>?_
                                refine E.opv hF (r_assign (hF.at 0 rfl)) rfl rfl rfl rfl fun a hF=>?_
                                refine E.nil ?_
                                refine wp_seq ?_
                                refine E.seq ?_
                                refine E.opv hF (r_move (hF.at 0 rfl)) rfl rfl rfl rfl fun a hF=>?_
                                refine E.opv hF (r_bin (hF.at 0 rfl) ev_c eg_scalar (ia_sub (by omega) (by omega))) rfl rfl rfl rfl fun a hF=>?_
                                refine E.opv hF (r_assign (hF.at 0 rfl)) rfl rfl rfl rfl fun a hF=>?_
                                obtain⟨n,hn⟩:∃n:Int,n=(-((-((525972500*(((30*(j+1))+d)-1))-133583340))/534333360))-1132959:=⟨_,rfl⟩
                                rw[←hn] at hF
                                have hnx:n=omX y m l d:=by rw[hn,hjn,Int.add_sub_assoc];rfl
                                refine E.nil ?_
                                refine wp_seq ?_
                                refine wp_seq ?_
                                refine E.seq ?_
                                refine E.opv hF (r_move (hF.at 0 rfl)) rfl rfl rfl rfl fun a hF=>?_
                                by_cases hc23:n<(-3000000)
                                ·first
                                 |(exfalso;omega)
                                 |(refine E.opv hF (r_bin (hF.at 0 rfl) ev_c eg_scalar (bi_int (ic_lss (c:=true) (dec_tt hc23)) (by simp))) rfl rfl rfl rfl fun a hF=>?_
                                   refine E.opv hF (r_move (hF.at 0 rfl)) rfl rfl rfl rfl fun a hF=>?_
                                   refine E.unwanted hF (wanted_by rfl rfl (hF.at 0 rfl) rfl) rfl rfl rfl fun a hF=>?_
                                   refine E.unwanted hF (wanted_by rfl rfl (hF.at 1 rfl) rfl) rfl rfl rfl fun a hF=>?_
                                   refine E.opv hF (r_pick_t (hF.at 2 rfl) ev_c) rfl rfl rfl rfl fun a hF=>?_
                                   refine E.nil ?_
                                   refine wp_cond_true (hF.at 0 rfl) ?_
                                   refine wp_seq ?_
                                   refine E.seq ?_
                                   refine E.opset (L':=[(2,.int .i64 0),(91,.bool true),(90,undef),(89,undef),(88,.bool true),(87,.bool true),(86,.int .i64 n),(9,.int .i64 n),(85,.int .i64 n),(84,.int .i64 (-((-((525972500*(((30*(j+1))+d)-1))-133583340))/534333360))),(8,.int .i64 (-((-((525972500*(((30*(j+1))+d)-1))-133583340))/534333360))),(83,.int .i64 (-((-((525972500*(((30*(j+1))+d)-1))-133583340))/534333360))),(82,.int .i64 ((-((525972500*(((30*(j+1))+d)-1))-133583340))/534333360)),(81,.int .i64 (-((525972500*(((30*(j+1))+d)-1))-133583340))),(80,.int .i64 ((525972500*(((30*(j+1))+d)-1))-133583340)),(79,.int .i64 (525972500*(((30*(j+1))+d)-1))),(78,.int .i64 (((30*(j+1))+d)-1)),(7,.int .i64 (((30*(j+1))+d)-1)),(77,.int .i64 (((30*(j+1))+d)-1)),(76,.int .i64 ((30*(j+1))+d)),(75,.int .i64 d),(74,.pointer (some ⟨g1,3,none⟩)),(73,.int .i64 (30*(j+1))),(72,.int .i64 (j+1)),(5,.int .i64 (j+1)),(71,.int .i64 (j+1)),(70,.int .i64 j),(69,.bool true),(68,.bool true),(67,.int .i64 u),(66,.int .i64 (omU (j+1))),(65,.int .i64 (j+1)),(64,.int .i64 j),(63,.bool true),(62,.bool true),(61,.bool l),(60,.pointer (some ⟨g1,2,none⟩)),(55,.bool false),(54,.bool false),(53,.int .i64 u),(52,.int .i64 (omU j)),(51,.int .i64 j),(50,.bool true),(49,.bool true),(48,.int .i64 k),(6,.int .i64 k),(4,.int .i64 u),(3,.int .i64 0),(1,.pointer (some ⟨g1,0,none⟩))]) hF (r_assign ev_c) rfl rfl rfl rfl fun a hF=>?_
                                   refine E.opset (L':=[(3,.int .i64 2),(2,.int .i64 0),(91,.bool true),(90,undef),(89,undef),(88,.bool true),(87,.bool true),(86,.int .i64 n),(9,.int .i64 n),(85,.int .i64 n),(84,.int .i64 (-((-((525972500*(((30*(j+1))+d)-1))-133583340))/534333360))),(8,.int .i64 (-((-((525972500*(((30*(j+1))+d)-1))-133583340))/534333360))),(83,.int .i64 (-((-((525972500*(((30*(j+1))+d)-1))-133583340))/534333360))),(82,.int .i64 ((-((525972500*(((30*(j+1))+d)-1))-133583340))/534333360)),(81,.int .i64 (-((525972500*(((30*(j+1))+d)-1))-133583340))),(80,.int .i64 ((525972500*(((30*(j+1))+d)-1))-133583340)),(79,.int .i64 (525972500*(((30*(j+1))+d)-1))),(78,.int .i64 (((30*(j+1))+d)-1)),(7,.int .i64 (((30*(j+1))+d)-1)),(77,.int .i64 (((30*(j+1))+d)-1)),(76,.int .i64 ((30*(j+1))+d)),(75,.int .i64 d),(74,.pointer (some ⟨g1,3,none⟩)),(73,.int .i64 (30*(j+1))),(72,.int .i64 (j+1)),(5,.int .i64 (j+1)),(71,.int .i64 (j+1)),(70,.int .i64 j),(69,.bool true),(68,.bool true),(67,.int .i64 u),(66,.int .i64 (omU (j+1))),(65,.int .i64 (j+1)),(64,.int .i64 j),(63,.bool true),(62,.bool true),(61,.bool l),(60,.pointer (some ⟨g1,2,none⟩)),(55,.bool false),(54,.bool false),(53,.int .i64 u),(52,.int .i64 (omU j)),(51,.int .i64 j),(50,.bool true),(49,.bool true),(48,.int .i64 k),(6,.int .i64 k),(4,.int .i64 u),(1,.pointer (some ⟨g1,0,none⟩))]) hF (r_assign ev_c) rfl rfl rfl rfl fun a hF=>?_
                                   refine E.nil ?_
                                   refine wp_ret ?_
                                   have bel:=st.bel
                                   refine bodyPost_ret (res_tmp2 Try.results31 (hF.at 1 rfl) (hF.at 0 rfl)) hF.dfr ?_
                                   have hfx:=om_2f hnx (by omega) (by omega) (by omega)
                                   exact⟨rv_int2 hfx.1 hfx.2,bel⟩)
                                ·first
                                 |(exfalso;omega)
                                 |(refine E.opv hF (r_bin (hF.at 0 rfl) ev_c eg_scalar (bi_int (ic_lss (c:=false) (dec_ff hc23)) (by simp))) rfl rfl rfl rfl fun a hF=>?_
                                   refine E.opv hF (r_move (hF.at 0 rfl)) rfl rfl rfl rfl fun a hF=>?_
                                   refine E.opvg hF (r_move (hF.at 3 rfl)) (wanted_by rfl rfl (hF.at 0 rfl) rfl) rfl rfl rfl fun a hF=>?_
                                   by_cases hc24:3000000<n
                                   ·first
                                    |(exfalso;omega)
                                    |(refine E.opvg hF (r_bin (hF.at 0 rfl) ev_c eg_scalar (bi_int (ic_gtr (c:=true) (dec_tt hc24)) (by simp))) (wanted_by rfl rfl (hF.at 1 rfl) rfl) rfl rfl rfl fun a hF=>?_
                                      refine E.opv hF (r_pick_f (hF.at 2 rfl) (hF.at 0 rfl)) rfl rfl rfl rfl fun a hF=>?_
                                      refine E.nil ?_
                                      refine wp_cond_true (hF.at 0 rfl) ?_
                                      refine wp_seq ?_
                                      refine E.seq ?_
                                      refine E.opset (L':=[(2,.int .i64 0),(91,.bool true),(90,.bool true),(89,.int .i64 n),(88,.bool false),(87,.bool false),(86,.int .i64 n),(9,.int .i64 n),(85,.int .i64 n),(84,.int .i64 (-((-((525972500*(((30*(j+1))+d)-1))-133583340))/534333360))),(8,.int .i64 (-((-((525972500*(((30*(j+1))+d)-1))-133583340))/534333360))),(83,.int .i64 (-((-((525972500*(((30*(j+1))+d)-1))-133583340))/534333360))),(82,.int .i64 ((-((525972500*(((30*(j+1))+d)-1))-133583340))/534333360)),(81,.int .i64 (-((525972500*(((30*(j+1))+d)-1))-133583340))),(80,.int .i64 ((525972500*(((30*(j+1))+d)-1))-133583340)),(79,.int .i64 (525972500*(((30*(j+1))+d)-1))),(78,.int .i64 (((30*(j+1))+d)-1)),(7,.int .i64 (((30*(j+1))+d)-1)),(77,.int .i64 (((30*(j+1))+d)-1)),(76,.int .i64 ((30*(j+1))+d)),(75,.int .i64 d),(74,.pointer (some ⟨g1,3,none⟩)),(73,.int .i64 (30*(j+1))),(72,.int .i64 (j+1)),(5,.int .i64 (j+1)),(71,.int .i64 (j+1)),(70,.int .i64 j),(69,.bool true),(68,.bool true),(67,.int .i64 u),(66,.int .i64 (omU (j+1))),(65,.int .i64 (j+1)),(64,.int .i64 j),(63,.bool true),(62,.bool true),(61,.bool l),(60,.pointer (some ⟨g1,2,none⟩)),(55,.bool false),(54,.bool false),(53,.int .i64 u),(52,.int .i64 (omU j)),(51,.int .i64 j),(50,.bool true),(49,.bool true),(48,.int .i64 k),(6,.int .i64 k),(4,.int .i64 u),(3,.int .i64 0),(1,.pointer (some ⟨g1,0,none⟩))]) hF (r_assign ev_c) rfl rfl rfl rfl fun a hF=>?_
                                      refine E.opset (L':=[(3,.int .i64 2),(2,.int .i64 0),(91,.bool true),(90,.bool true),(89,.int .i64 n),(88,.bool false),(87,.bool false),(86,.int .i64 n),(9,.int .i64 n),(85,.int .i64 n),(84,.int .i64 (-((-((525972500*(((30*(j+1))+d)-1))-133583340))/534333360))),(8,.int .i64 (-((-((525972500*(((30*(j+1))+d)-1))-133583340))/534333360))),(83,.int .i64 (-((-((525972500*(((30*(j+1))+d)-1))-133583340))/534333360))),(82,.int .i64 ((-((525972500*(((30*(j+1))+d)-1))-133583340))/534333360)),(81,.int .i64 (-((525972500*(((30*(j+1))+d)-1))-133583340))),(80,.int .i64 ((525972500*(((30*(j+1))+d)-1))-133583340)),(79,.int .i64 (525972500*(((30*(j+1))+d)-1))),(78,.int .i64 (((30*(j+1))+d)-1)),(7,.int .i64 (((30*(j+1))+d)-1)),(77,.int .i64 (((30*(j+1))+d)-1)),(76,.int .i64 ((30*(j+1))+d)),(75,.int .i64 d),(74,.pointer (some ⟨g1,3,none⟩)),(73,.int .i64 (30*(j+1))),(72,.int .i64 (j+1)),(5,.int .i64 (j+1)),(71,.int .i64 (j+1)),(70,.int .i64 j),(69,.bool true),(68,.bool true),(67,.int .i64 u),(66,.int .i64 (omU (j+1))),(65,.int .i64 (j+1)),(64,.int .i64 j),(63,.bool true),(62,.bool true),(61,.bool l),(60,.pointer (some ⟨g1,2,none⟩)),(55,.bool false),(54,.bool false),(53,.int .i64 u),(52,.int .i64 (omU j)),(51,.int .i64 j),(50,.bool true),(49,.bool true),(48,.int .i64 k),(6,.int .i64 k),(4,.int .i64 u),(1,.pointer (some ⟨g1,0,none⟩))]) hF (r_assign ev_c) rfl rfl rfl rfl fun a hF=>?_
                                      refine E.nil ?_
                                      refine wp_ret ?_
                                      have bel:=st.bel
                                      refine bodyPost_ret (res_tmp2 Try.results31 (hF.at 1 rfl) (hF.at 0 rfl)) hF.dfr ?_
                                      have hfx:=om_2f hnx (by omega) (by omega) (by omega)
                                      exact⟨rv_int2 hfx.1 hfx.2,bel⟩)
                                   ·first
                                    |(exfalso;omega)
                                    |(refine E.opvg hF (r_bin (hF.at 0 rfl) ev_c eg_scalar (bi_int (ic_gtr (c:=false) (dec_ff hc24)) (by simp))) (wanted_by rfl rfl (hF.at 1 rfl) rfl) rfl rfl rfl fun a hF=>?_
                                      refine E.opv hF (r_pick_f (hF.at 2 rfl) (hF.at 0 rfl)) rfl rfl rfl rfl fun a hF=>?_
                                      refine E.nil ?_
                                      refine wp_cond_false (hF.at 0 rfl) ?_
                                      refine wp_skip ?_
                                      refine E.norm ?_
                                      refine wp_seq ?_
                                      refine wp_seq ?_
                                      by_cases hc25:(omU (omJ n)/12)=y∧(omU (omJ n)%12+1)=m∧(decide (omU (omJ n+1)=omU (omJ n)))=l∧(omL n-30*omJ n+1)=d
                                      ·first
                                       |(exfalso;omega)
                                       |(refine E.drawn 4 mixed hF [92,93,94,95] [(fun _ v=>v= .int .i64 n),(fun _ v=>v= .agg #[.int .i64 (omU (omJ n)/12),.int .i64 (omU (omJ n)%12+1),.bool (decide (omU (omJ n+1)=omU (omJ n))),.int .i64 (omL n-30*omJ n+1)]),(fun _ v=>v= .agg #[.int .i64 y,.int .i64 m,.bool l,.int .i64 d]),(fun _ v=>v= .bool false)] [] (by decide+kernel) (by decide+kernel) rfl rfl rfl ⟨(Mb.eq _),(Mb.eq _),(Mb.eq _),(Mb.eq _),trivial⟩ trivial ⟨?_,?_,?_,?_,trivial⟩ ?_
                                         ·intro a' w' hF' hb hd
                                          exact dv0 (r_move (hF'.at 6 rfl)) rfl rfl rfl
                                         ·intro a' w' hF' hb hd
                                          have e92:=sHe hd 0 92 rfl rfl rfl rfl
                                          exact dcx0 (r_call Try.func28 en28.1 en28.2 (map1 e92)) (r17of_any n _ (by omega) (by omega)) (fun _=>rfl) rfl rfl
                                         ·intro a' w' hF' hb hd
                                          exact dv0 (r_load (hF'.at 48 rfl) (ld_all ty_RMD ((st.bk 0 rfl).below hb) rfl)) rfl rfl rfl
                                         ·intro a' w' hF' hb hd
                                          have e93:=sHe hd 0 93 rfl rfl rfl rfl
                                          have e94:=sHe hd 1 94 rfl rfl rfl rfl
                                          exact dv0 (r_bin e93 e94 eg_RMD (ens_RMD (dec_tt hc25))) rfl rfl rfl
                                         intro a w26 hF bb hall hne
                                         replace st:=st.to bb
                                         have e95:=sSe hall 3 95 rfl rfl
                                         clear hall hne bb
                                         replace hF:=hF.add e95
                                         clear e95
                                         refine E.nil ?_
                                         refine wp_cond_false (hF.at 0 rfl) ?_
                                         refine wp_skip ?_
                                         refine E.norm ?_
                                         refine wp_seq ?_
                                         refine E.seq ?_
                                         refine E.opv hF (r_move (hF.at 7 rfl)) rfl rfl rfl rfl fun a hF=>?_
                                         refine E.opset (L':=[(2,.int .i64 n),(96,.int .i64 n),(95,.bool false),(91,.bool false),(90,.bool false),(89,.int .i64 n),(88,.bool false),(87,.bool false),(86,.int .i64 n),(9,.int .i64 n),(85,.int .i64 n),(84,.int .i64 (-((-((525972500*(((30*(j+1))+d)-1))-133583340))/534333360))),(8,.int .i64 (-((-((525972500*(((30*(j+1))+d)-1))-133583340))/534333360))),(83,.int .i64 (-((-((525972500*(((30*(j+1))+d)-1))-133583340))/534333360))),(82,.int .i64 ((-((525972500*(((30*(j+1))+d)-1))-133583340))/534333360)),(81,.int .i64 (-((525972500*(((30*(j+1))+d)-1))-133583340))),(80,.int .i64 ((525972500*(((30*(j+1))+d)-1))-133583340)),(79,.int .i64 (525972500*(((30*(j+1))+d)-1))),(78,.int .i64 (((30*(j+1))+d)-1)),(7,.int .i64 (((30*(j+1))+d)-1)),(77,.int .i64 (((30*(j+1))+d)-1)),(76,.int .i64 ((30*(j+1))+d)),(75,.int .i64 d),(74,.pointer (some ⟨g1,3,none⟩)),(73,.int .i64 (30*(j+1))),(72,.int .i64 (j+1)),(5,.int .i64 (j+1)),(71,.int .i64 (j+1)),(70,.int .i64 j),(69,.bool true),(68,.bool true),(67,.int .i64 u),(66,.int .i64 (omU (j+1))),(65,.int .i64 (j+1)),(64,.int .i64 j),(63,.bool true),(62,.bool true),(61,.bool l),(60,.pointer (some ⟨g1,2,none⟩)),(55,.bool false),(54,.bool false),(53,.int .i64 u),(52,.int .i64 (omU j)),(51,.int .i64 j),(50,.bool true),(49,.bool true),(48,.int .i64 k),(6,.int .i64 k),(4,.int .i64 u),(3,.int .i64 0),(1,.pointer (some ⟨g1,0,none⟩))]) hF (r_assign (hF.at 0 rfl)) rfl rfl rfl rfl fun a hF=>?_
                                         refine E.opset (L':=[(3,.int .i64 0),(2,.int .i64 n),(96,.int .i64 n),(95,.bool false),(91,.bool false),(90,.bool false),(89,.int .i64 n),(88,.bool false),(87,.bool false),(86,.int .i64 n),(9,.int .i64 n),(85,.int .i64 n),(84,.int .i64 (-((-((525972500*(((30*(j+1))+d)-1))-133583340))/534333360))),(8,.int .i64 (-((-((525972500*(((30*(j+1))+d)-1))-133583340))/534333360))),(83,.int .i64 (-((-((525972500*(((30*(j+1))+d)-1))-133583340))/534333360))),(82,.int .i64 ((-((525972500*(((30*(j+1))+d)-1))-133583340))/534333360)),(81,.int .i64 (-((525972500*(((30*(j+1))+d)-1))-133583340))),(80,.int .i64 ((525972500*(((30*(j+1))+d)-1))-133583340)),(79,.int .i64 (525972500*(((30*(j+1))+d)-1))),(78,.int .i64 (((30*(j+1))+d)-1)),(7,.int .i64 (((30*(j+1))+d)-1)),(77,.int .i64 (((30*(j+1))+d)-1)),(76,.int .i64 ((30*(j+1))+d)),(75,.int .i64 d),(74,.pointer (some ⟨g1,3,none⟩)),(73,.int .i64 (30*(j+1))),(72,.int .i64 (j+1)),(5,.int .i64 (j+1)),(71,.int .i64 (j+1)),(70,.int .i64 j),(69,.bool true),(68,.bool true),(67,.int .i64 u),(66,.int .i64 (omU (j+1))),(65,.int .i64 (j+1)),(64,.int .i64 j),(63,.bool true),(62,.bool true),(61,.bool l),(60,.pointer (some ⟨g1,2,none⟩)),(55,.bool false),(54,.bool false),(53,.int .i64 u),(52,.int .i64 (omU j)),(51,.int .i64 j),(50,.bool true),(49,.bool true),(48,.int .i64 k),(6,.int .i64 k),(4,.int .i64 u),(1,.pointer (some ⟨g1,0,none⟩))]) hF (r_assign ev_c) rfl rfl rfl rfl fun a hF=>?_
                                         refine E.nil ?_
                                         refine wp_ret ?_
                                         have bel:=st.bel
                                         refine bodyPost_ret (res_tmp2 Try.results31 (hF.at 1 rfl) (hF.at 0 rfl)) hF.dfr ?_
                                         have hfx:=om_0 hnx (by omega) (by omega) (by omega) hc25
                                         exact⟨rv_int2 hfx.1 hfx.2,bel⟩)
                                      ·first
                                       |(exfalso;omega)
                                       |(refine E.drawn 4 mixed hF [92,93,94,95] [(fun _ v=>v= .int .i64 n),(fun _ v=>v= .agg #[.int .i64 (omU (omJ n)/12),.int .i64 (omU (omJ n)%12+1),.bool (decide (omU (omJ n+1)=omU (omJ n))),.int .i64 (omL n-30*omJ n+1)]),(fun _ v=>v= .agg #[.int .i64 y,.int .i64 m,.bool l,.int .i64 d]),(fun _ v=>v= .bool true)] [] (by decide+kernel) (by decide+kernel) rfl rfl rfl ⟨(Mb.eq _),(Mb.eq _),(Mb.eq _),(Mb.eq _),trivial⟩ trivial ⟨?_,?_,?_,?_,trivial⟩ ?_
                                         ·intro a' w' hF' hb hd
                                          exact dv0 (r_move (hF'.at 6 rfl)) rfl rfl rfl
                                         ·intro a' w' hF' hb hd
                                          have e92:=sHe hd 0 92 rfl rfl rfl rfl
                                          exact dcx0 (r_call Try.func28 en28.1 en28.2 (map1 e92)) (r17of_any n _ (by omega) (by omega)) (fun _=>rfl) rfl rfl
                                         ·intro a' w' hF' hb hd
                                          exact dv0 (r_load (hF'.at 48 rfl) (ld_all ty_RMD ((st.bk 0 rfl).below hb) rfl)) rfl rfl rfl
                                         ·intro a' w' hF' hb hd
                                          have e93:=sHe hd 0 93 rfl rfl rfl rfl
                                          have e94:=sHe hd 1 94 rfl rfl rfl rfl
                                          exact dv0 (r_bin e93 e94 eg_RMD (ens_RMD (dec_ff hc25))) rfl rfl rfl
                                         intro a w27 hF bb hall hne
                                         replace st:=st.to bb
                                         have e95:=sSe hall 3 95 rfl rfl
                                         clear hall hne bb
                                         replace hF:=hF.add e95
                                         clear e95
                                         refine E.nil ?_
                                         refine wp_cond_true (hF.at 0 rfl) ?_
                                         refine wp_seq ?_
                                         refine E.seq ?_
                                         refine E.opset (L':=[(2,.int .i64 0),(95,.bool true),(91,.bool false),(90,.bool false),(89,.int .i64 n),(88,.bool false),(87,.bool false),(86,.int .i64 n),(9,.int .i64 n),(85,.int .i64 n),(84,.int .i64 (-((-((525972500*(((30*(j+1))+d)-1))-133583340))/534333360))),(8,.int .i64 (-((-((525972500*(((30*(j+1))+d)-1))-133583340))/534333360))),(83,.int .i64 (-((-((525972500*(((30*(j+1))+d)-1))-133583340))/534333360))),(82,.int .i64 ((-((525972500*(((30*(j+1))+d)-1))-133583340))/534333360)),(81,.int .i64 (-((525972500*(((30*(j+1))+d)-1))-133583340))),(80,.int .i64 ((525972500*(((30*(j+1))+d)-1))-133583340)),(79,.int .i64 (525972500*(((30*(j+1))+d)-1))),(78,.int .i64 (((30*(j+1))+d)-1)),(7,.int .i64 (((30*(j+1))+d)-1)),(77,.int .i64 (((30*(j+1))+d)-1)),(76,.int .i64 ((30*(j+1))+d)),(75,.int .i64 d),(74,.pointer (some ⟨g1,3,none⟩)),(73,.int .i64 (30*(j+1))),(72,.int .i64 (j+1)),(5,.int .i64 (j+1)),(71,.int .i64 (j+1)),(70,.int .i64 j),(69,.bool true),(68,.bool true),(67,.int .i64 u),(66,.int .i64 (omU (j+1))),(65,.int .i64 (j+1)),(64,.int .i64 j),(63,.bool true),(62,.bool true),(61,.bool l),(60,.pointer (some ⟨g1,2,none⟩)),(55,.bool false),(54,.bool false),(53,.int .i64 u),(52,.int .i64 (omU j)),(51,.int .i64 j),(50,.bool true),(49,.bool true),(48,.int .i64 k),(6,.int .i64 k),(4,.int .i64 u),(3,.int .i64 0),(1,.pointer (some ⟨g1,0,none⟩))]) hF (r_assign ev_c) rfl rfl rfl rfl fun a hF=>?_
                                         refine E.opset (L':=[(3,.int .i64 3),(2,.int .i64 0),(95,.bool true),(91,.bool false),(90,.bool false),(89,.int .i64 n),(88,.bool false),(87,.bool false),(86,.int .i64 n),(9,.int .i64 n),(85,.int .i64 n),(84,.int .i64 (-((-((525972500*(((30*(j+1))+d)-1))-133583340))/534333360))),(8,.int .i64 (-((-((525972500*(((30*(j+1))+d)-1))-133583340))/534333360))),(83,.int .i64 (-((-((525972500*(((30*(j+1))+d)-1))-133583340))/534333360))),(82,.int .i64 ((-((525972500*(((30*(j+1))+d)-1))-133583340))/534333360)),(81,.int .i64 (-((525972500*(((30*(j+1))+d)-1))-133583340))),(80,.int .i64 ((525972500*(((30*(j+1))+d)-1))-133583340)),(79,.int .i64 (525972500*(((30*(j+1))+d)-1))),(78,.int .i64 (((30*(j+1))+d)-1)),(7,.int .i64 (((30*(j+1))+d)-1)),(77,.int .i64 (((30*(j+1))+d)-1)),(76,.int .i64 ((30*(j+1))+d)),(75,.int .i64 d),(74,.pointer (some ⟨g1,3,none⟩)),(73,.int .i64 (30*(j+1))),(72,.int .i64 (j+1)),(5,.int .i64 (j+1)),(71,.int .i64 (j+1)),(70,.int .i64 j),(69,.bool true),(68,.bool true),(67,.int .i64 u),(66,.int .i64 (omU (j+1))),(65,.int .i64 (j+1)),(64,.int .i64 j),(63,.bool true),(62,.bool true),(61,.bool l),(60,.pointer (some ⟨g1,2,none⟩)),(55,.bool false),(54,.bool false),(53,.int .i64 u),(52,.int .i64 (omU j)),(51,.int .i64 j),(50,.bool true),(49,.bool true),(48,.int .i64 k),(6,.int .i64 k),(4,.int .i64 u),(1,.pointer (some ⟨g1,0,none⟩))]) hF (r_assign ev_c) rfl rfl rfl rfl fun a hF=>?_
                                         refine E.nil ?_
                                         refine wp_ret ?_
                                         have bel:=st.bel
                                         refine bodyPost_ret (res_tmp2 Try.results31 (hF.at 1 rfl) (hF.at 0 rfl)) hF.dfr ?_
                                         have hfx:=om_3 hnx (by omega) (by omega) (by omega) hc25
                                         exact⟨rv_int2 hfx.1 hfx.2,bel⟩))))
                             ·first
                              |(exfalso;omega)
                              |(refine E.opvg hF (r_bin (hF.at 1 rfl) (hF.at 0 rfl) eg_scalar (bi_int (ic_eql (c:=false) (dec_ff hc21)) (by simp))) (wanted_by rfl rfl (hF.at 4 rfl) rfl) rfl rfl rfl fun a hF=>?_
                                refine E.opv hF (r_pick_t (hF.at 5 rfl) (hF.at 0 rfl)) rfl rfl rfl rfl fun a hF=>?_
                                refine E.nil ?_
                                refine wp_cond_false (hF.at 0 rfl) ?_
                                refine wp_skip ?_
                                refine E.norm ?_
                                refine wp_seq ?_
                                refine E.seq ?_
                                refine E.opv hF (r_move (hF.at 19 rfl)) rfl rfl rfl rfl fun a hF=>?_
                                refine E.opv hF (r_bin ev_c (hF.at 0 rfl) eg_scalar (ia_mul (by omega) (by omega))) rfl rfl rfl rfl fun a hF=>?_
                                refine E.opv hF (r_field (hF.at 25 rfl) (fa_RMD_3 (p:=3) rfl)) rfl rfl rfl rfl fun a hF=>?_
                                refine E.opv hF (r_load (hF.at 0 rfl) (ldb_int (v:= .int .i64 d) (st.bk 0 rfl) rfl)) rfl rfl rfl rfl fun a hF=>?_
                                refine E.opv hF (r_bin (hF.at 2 rfl) (hF.at 0 rfl) eg_scalar (ia_add (by omega) (by omega))) rfl rfl rfl rfl fun a hF=>?_
                                refine E.opv hF (r_bin (hF.at 0 rfl) ev_c eg_scalar (ia_sub (by omega) (by omega))) rfl rfl rfl rfl fun a hF=>?_
                                refine E.opv hF (r_assign (hF.at 0 rfl)) rfl rfl rfl rfl fun a hF=>?_
                                have hje:j=omA u:=by omega
                                have hjn:j=omN (12*y+(m-1)) l:=by
                                 rw[show 12*y+(m-1)=u by omega,hje]
                                 exact om_end (fun h=>hc21 (by rw[hje];exact h.2))
                                have hjb:=omN_bd (u:=12*y+(m-1)) (l:=l) (by omega) (by omega)
                                refine E.nil ?_
                                refine wp_seq ?_
                                refine E.seq ?_
                                refine E.opv hF (r_move (hF.at 0 rfl)) rfl rfl rfl rfl fun a hF=>?_
                                refine E.opv hF (r_bin ev_c (hF.at 0 rfl) eg_scalar (ia_mul (by omega) (by omega))) rfl rfl rfl rfl fun a hF=>?_
                                refine E.opv hF (r_bin (hF.at 0 rfl) ev_c eg_scalar (ia_sub (by omega) (by omega))) rfl rfl rfl rfl fun a hF=>?_
                                refine E.opv hF (r_un (hF.at 0 rfl) (bn_neg (by omega) (by omega))) rfl rfl rfl rfl fun a hF=>?_
                                refine S.callx st hF (r_call Try.func34 en34.1 en34.2 (map2 (hF.at 0 rfl) ev_c)) (r16fl_any (-((525972500*(((30*j)+d)-1))-133583340)) 534333360 _ (by omega) (by omega) (by omega) (by omega)) rfl rfl rfl rfl fun w28 a st hF=>?_
                                refine E.opv hF (r_un (hF.at 0 rfl) (bn_neg (by omega) (by omega))) rfl rfl rfl rfl fun a hF=>?_
                                refine E.opv hF (r_assign (hF.at 0 rfl)) rfl rfl rfl rfl fun a hF=>?_
                                refine E.nil ?_
                                refine wp_seq ?_
                                refine E.seq ?_
                                refine E.opv hF (r_move (hF.at 0 rfl)) rfl rfl rfl rfl fun a hF=>?_
                                refine E.opv hF (r_bin (hF.at 0 rfl) ev_c eg_scalar (ia_sub (by omega) (by omega))) rfl rfl rfl rfl fun a hF=>?_
                                refine E.opv hF (r_assign (hF.at 0 rfl)) rfl rfl rfl rfl fun a hF=>?_
                                obtain⟨n,hn⟩:∃n:Int,n=(-((-((525972500*(((30*j)+d)-1))-133583340))/534333360))-1132959:=⟨_,rfl⟩
                                rw[←hn] at hF
                                have hnx:n=omX y m l d:=by rw[hn,hjn,Int.add_sub_assoc];rfl
                                refine E.nil ?_
                                refine wp_seq ?_
                                refine wp_seq ?_
                                refine E.seq ?_
                                refine E.opv hF (r_move (hF.at 0 rfl)) rfl rfl rfl rfl fun a hF=>?_
                                by_cases hc29:n<(-3000000)
                                ·first
                                 |(exfalso;omega)
                                 |(refine E.opv hF (r_bin (hF.at 0 rfl) ev_c eg_scalar (bi_int (ic_lss (c:=true) (dec_tt hc29)) (by simp))) rfl rfl rfl rfl fun a hF=>?_
                                   refine E.opv hF (r_move (hF.at 0 rfl)) rfl rfl rfl rfl fun a hF=>?_
                                   refine E.unwanted hF (wanted_by rfl rfl (hF.at 0 rfl) rfl) rfl rfl rfl fun a hF=>?_
                                   refine E.unwanted hF (wanted_by rfl rfl (hF.at 1 rfl) rfl) rfl rfl rfl fun a hF=>?_
                                   refine E.opv hF (r_pick_t (hF.at 2 rfl) ev_c) rfl rfl rfl rfl fun a hF=>?_
                                   refine E.nil ?_
                                   refine wp_cond_true (hF.at 0 rfl) ?_
                                   refine wp_seq ?_
                                   refine E.seq ?_
                                   refine E.opset (L':=[(2,.int .i64 0),(91,.bool true),(90,undef),(89,undef),(88,.bool true),(87,.bool true),(86,.int .i64 n),(9,.int .i64 n),(85,.int .i64 n),(84,.int .i64 (-((-((525972500*(((30*j)+d)-1))-133583340))/534333360))),(8,.int .i64 (-((-((525972500*(((30*j)+d)-1))-133583340))/534333360))),(83,.int .i64 (-((-((525972500*(((30*j)+d)-1))-133583340))/534333360))),(82,.int .i64 ((-((525972500*(((30*j)+d)-1))-133583340))/534333360)),(81,.int .i64 (-((525972500*(((30*j)+d)-1))-133583340))),(80,.int .i64 ((525972500*(((30*j)+d)-1))-133583340)),(79,.int .i64 (525972500*(((30*j)+d)-1))),(78,.int .i64 (((30*j)+d)-1)),(7,.int .i64 (((30*j)+d)-1)),(77,.int .i64 (((30*j)+d)-1)),(76,.int .i64 ((30*j)+d)),(75,.int .i64 d),(74,.pointer (some ⟨g1,3,none⟩)),(73,.int .i64 (30*j)),(72,.int .i64 j),(69,.bool false),(68,.bool false),(67,.int .i64 u),(66,.int .i64 (omU (j+1))),(65,.int .i64 (j+1)),(64,.int .i64 j),(63,.bool true),(62,.bool true),(61,.bool l),(60,.pointer (some ⟨g1,2,none⟩)),(55,.bool false),(54,.bool false),(53,.int .i64 u),(52,.int .i64 (omU j)),(51,.int .i64 j),(50,.bool true),(49,.bool true),(48,.int .i64 k),(6,.int .i64 k),(5,.int .i64 j),(4,.int .i64 u),(3,.int .i64 0),(1,.pointer (some ⟨g1,0,none⟩))]) hF (r_assign ev_c) rfl rfl rfl rfl fun a hF=>?_
                                   refine E.opset (L':=[(3,.int .i64 2),(2,.int .i64 0),(91,.bool true),(90,undef),(89,undef),(88,.bool true),(87,.bool true),(86,.int .i64 n),(9,.int .i64 n),(85,.int .i64 n),(84,.int .i64 (-((-((525972500*(((30*j)+d)-1))-133583340))/534333360))),(8,.int .i64 (-((-((525972500*(((30*j)+d)-1))-133583340))/534333360))),(83,.int .i64 (-((-((525972500*(((30*j)+d)-1))-133583340))/534333360))),(82,.int .i64 ((-((525972500*(((30*j)+d)-1))-133583340))/534333360)),(81,.int .i64 (-((525972500*(((30*j)+d)-1))-133583340))),(80,.int .i64 ((525972500*(((30*j)+d)-1))-133583340)),(79,.int .i64 (525972500*(((30*j)+d)-1))),(78,.int .i64 (((30*j)+d)-1)),(7,.int .i64 (((30*j)+d)-1)),(77,.int .i64 (((30*j)+d)-1)),(76,.int .i64 ((30*j)+d)),(75,.int .i64 d),(74,.pointer (some ⟨g1,3,none⟩)),(73,.int .i64 (30*j)),(72,.int .i64 j),(69,.bool false),(68,.bool false),(67,.int .i64 u),(66,.int .i64 (omU (j+1))),(65,.int .i64 (j+1)),(64,.int .i64 j),(63,.bool true),(62,.bool true),(61,.bool l),(60,.pointer (some ⟨g1,2,none⟩)),(55,.bool false),(54,.bool false),(53,.int .i64 u),(52,.int .i64 (omU j)),(51,.int .i64 j),(50,.bool true),(49,.bool true),(48,.int .i64 k),(6,.int .i64 k),(5,.int .i64 j),(4,.int .i64 u),(1,.pointer (some ⟨g1,0,none⟩))]) hF (r_assign ev_c) rfl rfl rfl rfl fun a hF=>?_
                                   refine E.nil ?_
                                   refine wp_ret ?_
                                   have bel:=st.bel
                                   refine bodyPost_ret (res_tmp2 Try.results31 (hF.at 1 rfl) (hF.at 0 rfl)) hF.dfr ?_
                                   have hfx:=om_2f hnx (by omega) (by omega) (by omega)
                                   exact⟨rv_int2 hfx.1 hfx.2,bel⟩)
                                ·first
                                 |(exfalso;omega)
                                 |(refine E.opv hF (r_bin (hF.at 0 rfl) ev_c eg_scalar (bi_int (ic_lss (c:=false) (dec_ff hc29)) (by simp))) rfl rfl rfl rfl fun a hF=>?_
                                   refine E.opv hF (r_move (hF.at 0 rfl)) rfl rfl rfl rfl fun a hF=>?_
                                   refine E.opvg hF (r_move (hF.at 3 rfl)) (wanted_by rfl rfl (hF.at 0 rfl) rfl) rfl rfl rfl fun a hF=>?_
                                   by_cases hc30:3000000<n
                                   ·first
                                    |(exfalso;omega)
                                    |(refine E.opvg hF (r_bin (hF.at 0 rfl) ev_c eg_scalar (bi_int (ic_gtr (c:=true) (dec_tt hc30)) (by simp))) (wanted_by rfl rfl (hF.at 1 rfl) rfl) rfl rfl rfl fun a hF=>?_
                                      refine E.opv hF (r_pick_f (hF.at 2 rfl) (hF.at 0 rfl)) rfl rfl rfl rfl fun a hF=>?_
                                      refine E.nil ?_
                                      refine wp_cond_true (hF.at 0 rfl) ?_
                                      refine wp_seq ?_
                                      refine E.seq ?_
                                      refine E.opset (L':=[(2,.int .i64 0),(91,.bool true),(90,.bool true),(89,.int .i64 n),(88,.bool false),(87,.bool false),(86,.int .i64 n),(9,.int .i64 n),(85,.int .i64 n),(84,.int .i64 (-((-((525972500*(((30*j)+d)-1))-133583340))/534333360))),(8,.int .i64 (-((-((525972500*(((30*j)+d)-1))-133583340))/534333360))),(83,.int .i64 (-((-((525972500*(((30*j)+d)-1))-133583340))/534333360))),(82,.int .i64 ((-((525972500*(((30*j)+d)-1))-133583340))/534333360)),(81,.int .i64 (-((525972500*(((30*j)+d)-1))-133583340))),(80,.int .i64 ((525972500*(((30*j)+d)-1))-133583340)),(79,.int .i64 (525972500*(((30*j)+d)-1))),(78,.int .i64 (((30*j)+d)-1)),(7,.int .i64 (((30*j)+d)-1)),(77,.int .i64 (((30*j)+d)-1)),(76,.int .i64 ((30*j)+d)),(75,.int .i64 d),(74,.pointer (some ⟨g1,3,none⟩)),(73,.int .i64 (30*j)),(72,.int .i64 j),(69,.bool false),(68,.bool false),(67,.int .i64 u),(66,.int .i64 (omU (j+1))),(65,.int .i64 (j+1)),(64,.int .i64 j),(63,.bool true),(62,.bool true),(61,.bool l),(60,.pointer (some ⟨g1,2,none⟩)),(55,.bool false),(54,.bool false),(53,.int .i64 u),(52,.int .i64 (omU j)),(51,.int .i64 j),(50,.bool true),(49,.bool true),(48,.int .i64 k),(6,.int .i64 k),(5,.int .i64 j),(4,.int .i64 u),(3,.int .i64 0),(1,.pointer (some ⟨g1,0,none⟩))]) hF (r_assign ev_c) rfl rfl rfl rfl fun a hF=>?_
                                      refine E.opset (L':=[(3,.int .i64 2),(2,.int .i64 0),(91,.bool true),(90,.bool true),(89,.int .i64 n),(88,.bool false),(87,.bool false),(86,.int .i64 n),(9,.int .i64 n),(85,.int .i64 n),(84,.int .i64 (-((-((525972500*(((30*j)+d)-1))-133583340))/534333360))),(8,.int .i64 (-((-((525972500*(((30*j)+d)-1))-133583340))/534333360))),(83,.int .i64 (-((-((525972500*(((30*j)+d)-1))-133583340))/534333360))),(82,.int .i64 ((-((525972500*(((30*j)+d)-1))-133583340))/534333360)),(81,.int .i64 (-((525972500*(((30*j)+d)-1))-133583340))),(80,.int .i64 ((525972500*(((30*j)+d)-1))-133583340)),(79,.int .i64 (525972500*(((30*j)+d)-1))),(78,.int .i64 (((30*j)+d)-1)),(7,.int .i64 (((30*j)+d)-1)),(77,.int .i64 (((30*j)+d)-1)),(76,.int .i64 ((30*j)+d)),(75,.int .i64 d),(74,.pointer (some ⟨g1,3,none⟩)),(73,.int .i64 (30*j)),(72,.int .i64 j),(69,.bool false),(68,.bool false),(67,.int .i64 u),(66,.int .i64 (omU (j+1))),(65,.int .i64 (j+1)),(64,.int .i64 j),(63,.bool true),(62,.bool true),(61,.bool l),(60,.pointer (some ⟨g1,2,none⟩)),(55,.bool false),(54,.bool false),(53,.int .i64 u),(52,.int .i64 (omU j)),(51,.int .i64 j),(50,.bool true),(49,.bool true),(48,.int .i64 k),(6,.int .i64 k),(5,.int .i64 j),(4,.int .i64 u),(1,.pointer (some ⟨g1,0,none⟩))]) hF (r_assign ev_c) rfl rfl rfl rfl fun a hF=>?_
                                      refine E.nil ?_
                                      refine wp_ret ?_
                                      have bel:=st.bel
                                      refine bodyPost_ret (res_tmp2 Try.results31 (hF.at 1 rfl) (hF.at 0 rfl)) hF.dfr ?_
                                      have hfx:=om_2f hnx (by omega) (by omega) (by omega)
                                      exact⟨rv_int2 hfx.1 hfx.2,bel⟩)
                                   ·first
                                    |(exfalso;omega)
                                    |(refine E.opvg hF (r_bin (hF.at 0 rfl) ev_c eg_scalar (bi_int (ic_gtr (c:=false) (dec_ff hc30)) (by simp))) (wanted_by rfl rfl (hF.at 1 rfl) rfl) rfl rfl rfl fun a hF=>?_
                                      refine E.opv hF (r_pick_f (hF.at 2 rfl) (hF.at 0 rfl)) rfl rfl rfl rfl fun a hF=>?_
                                      refine E.nil ?_
                                      refine wp_cond_false (hF.at 0 rfl) ?_
                                      refine wp_skip ?_
                                      refine E.norm ?_
                                      refine wp_seq ?_
                                      refine wp_seq ?_
                                      by_cases hc31:(omU (omJ n)/12)=y∧(omU (omJ n)%12+1)=m∧(decide (omU (omJ n+1)=omU (omJ n)))=l∧(omL n-30*omJ n+1)=d
                                      ·first
                                       |(exfalso;omega)
                                       |(refine E.drawn 4 mixed hF [92,93,94,95] [(fun _ v=>v= .int .i64 n),(fun _ v=>v= .agg #[.int .i64 (omU (omJ n)/12),.int .i64 (omU (omJ n)%12+1),.bool (decide (omU (omJ n+1)=omU (omJ n))),.int .i64 (omL n-30*omJ n+1)]),(fun _ v=>v= .agg #[.int .i64 y,.int .i64 m,.bool l,.int .i64 d]),(fun _ v=>v= .bool false)] [] (by decide+kernel) (by decide+kernel) rfl rfl rfl ⟨(Mb.eq _),(Mb.eq _),(Mb.eq _),(Mb.eq _),trivial⟩ trivial ⟨?_,?_,?_,?_,trivial⟩ ?_
                                         ·intro a' w' hF' hb hd
                                          exact dv0 (r_move (hF'.at 6 rfl)) rfl rfl rfl
                                         ·intro a' w' hF' hb hd
                                          have e92:=sHe hd 0 92 rfl rfl rfl rfl
                                          exact dcx0 (r_call Try.func28 en28.1 en28.2 (map1 e92)) (r17of_any n _ (by omega) (by omega)) (fun _=>rfl) rfl rfl
                                         ·intro a' w' hF' hb hd
                                          exact dv0 (r_load (hF'.at 46 rfl) (ld_all ty_RMD ((st.bk 0 rfl).below hb) rfl)) rfl rfl rfl
                                         ·intro a' w' hF' hb hd
                                          have e93:=sHe hd 0 93 rfl rfl rfl rfl
                                          have e94:=sHe hd 1 94 rfl rfl rfl rfl
                                          exact dv0 (r_bin e93 e94 eg_RMD (ens_RMD (dec_tt hc31))) rfl rfl rfl
                                         intro a w32 hF bb hall hne
                                         replace st:=st.to bb
                                         have e95:=sSe hall 3 95 rfl rfl
                                         clear hall hne bb
                                         replace hF:=hF.add e95
                                         clear e95
                                         refine E.nil ?_
                                         refine wp_cond_false (hF.at 0 rfl) ?_
                                         refine wp_skip ?_
                                         refine E.norm ?_
                                         refine wp_seq ?_
                                         refine E.seq ?_
                                         refine E.opv hF (r_move (hF.at 7 rfl)) rfl rfl rfl rfl fun a hF=>?_
                                         refine E.opset (L':=[(2,.int .i64 n),(96,.int .i64 n),(95,.bool false),(91,.bool false),(90,.bool false),(89,.int .i64 n),(88,.bool false),(87,.bool false),(86,.int .i64 n),(9,.int .i64 n),(85,.int .i64 n),(84,.int .i64 (-((-((525972500*(((30*j)+d)-1))-133583340))/534333360))),(8,.int .i64 (-((-((525972500*(((30*j)+d)-1))-133583340))/534333360))),(83,.int .i64 (-((-((525972500*(((30*j)+d)-1))-133583340))/534333360))),(82,.int .i64 ((-((525972500*(((30*j)+d)-1))-133583340))/534333360)),(81,.int .i64 (-((525972500*(((30*j)+d)-1))-133583340))),(80,.int .i64 ((525972500*(((30*j)+d)-1))-133583340)),(79,.int .i64 (525972500*(((30*j)+d)-1))),(78,.int .i64 (((30*j)+d)-1)),(7,.int .i64 (((30*j)+d)-1)),(77,.int .i64 (((30*j)+d)-1)),(76,.int .i64 ((30*j)+d)),(75,.int .i64 d),(74,.pointer (some ⟨g1,3,none⟩)),(73,.int .i64 (30*j)),(72,.int .i64 j),(69,.bool false),(68,.bool false),(67,.int .i64 u),(66,.int .i64 (omU (j+1))),(65,.int .i64 (j+1)),(64,.int .i64 j),(63,.bool true),(62,.bool true),(61,.bool l),(60,.pointer (some ⟨g1,2,none⟩)),(55,.bool false),(54,.bool false),(53,.int .i64 u),(52,.int .i64 (omU j)),(51,.int .i64 j),(50,.bool true),(49,.bool true),(48,.int .i64 k),(6,.int .i64 k),(5,.int .i64 j),(4,.int .i64 u),(3,.int .i64 0),(1,.pointer (some ⟨g1,0,none⟩))]) hF (r_assign (hF.at 0 rfl)) rfl rfl rfl rfl fun a hF=>?_
                                         refine E.opset (L':=[(3,.int .i64 0),(2,.int .i64 n),(96,.int .i64 n),(95,.bool false),(91,.bool false),(90,.bool false),(89,.int .i64 n),(88,.bool false),(87,.bool false),(86,.int .i64 n),(9,.int .i64 n),(85,.int .i64 n),(84,.int .i64 (-((-((525972500*(((30*j)+d)-1))-133583340))/534333360))),(8,.int .i64 (-((-((525972500*(((30*j)+d)-1))-133583340))/534333360))),(83,.int .i64 (-((-((525972500*(((30*j)+d)-1))-133583340))/534333360))),(82,.int .i64 ((-((525972500*(((30*j)+d)-1))-133583340))/534333360)),(81,.int .i64 (-((525972500*(((30*j)+d)-1))-133583340))),(80,.int .i64 ((525972500*(((30*j)+d)-1))-133583340)),(79,.int .i64 (525972500*(((30*j)+d)-1))),(78,.int .i64 (((30*j)+d)-1)),(7,.int .i64 (((30*j)+d)-1)),(77,.int .i64 (((30*j)+d)-1)),(76,.int .i64 ((30*j)+d)),(75,.int .i64 d),(74,.pointer (some ⟨g1,3,none⟩)),(73,.int .i64 (30*j)),(72,.int .i64 j),(69,.bool false),(68,.bool false),(67,.int .i64 u),(66,.int .i64 (omU (j+1))),(65,.int .i64 (j+1)),(64,.int .i64 j),(63,.bool true),(62,.bool true),(61,.bool l),(60,.pointer (some ⟨g1,2,none⟩)),(55,.bool false),(54,.bool false),(53,.int .i64 u),(52,.int .i64 (omU j)),(51,.int .i64 j),(50,.bool true),(49,.bool true),(48,.int .i64 k),(6,.int .i64 k),(5,.int .i64 j),(4,.int .i64 u),(1,.pointer (some ⟨g1,0,none⟩))]) hF (r_assign ev_c) rfl rfl rfl rfl fun a hF=>?_
                                         refine E.nil ?_
                                         refine wp_ret ?_
                                         have bel:=st.bel
                                         refine bodyPost_ret (res_tmp2 Try.results31 (hF.at 1 rfl) (hF.at 0 rfl)) hF.dfr ?_
                                         have hfx:=om_0 hnx (by omega) (by omega) (by omega) hc31
                                         exact⟨rv_int2 hfx.1 hfx.2,bel⟩)
                                      ·first
                                       |(exfalso;omega)
                                       |(refine E.drawn 4 mixed hF [92,93,94,95] [(fun _ v=>v= .int .i64 n),(fun _ v=>v= .agg #[.int .i64 (omU (omJ n)/12),.int .i64 (omU (omJ n)%12+1),.bool (decide (omU (omJ n+1)=omU (omJ n))),.int .i64 (omL n-30*omJ n+1)]),(fun _ v=>v= .agg #[.int .i64 y,.int .i64 m,.bool l,.int .i64 d]),(fun _ v=>v= .bool true)] [] (by decide+kernel) (by decide+kernel) rfl rfl rfl ⟨(Mb.eq _),(Mb.eq _),(Mb.eq _),(Mb.eq _),trivial⟩ trivial ⟨?_,?_,?_,?_,trivial⟩ ?_
                                         ·intro a' w' hF' hb hd
                                          exact dv0 (r_move (hF'.at 6 rfl)) rfl rfl rfl
                                         ·intro a' w' hF' hb hd
                                          have e92:=sHe hd 0 92 rfl rfl rfl rfl
                                          exact dcx0 (r_call Try.func28 en28.1 en28.2 (map1 e92)) (r17of_any n _ (by omega) (by omega)) (fun _=>rfl) rfl rfl
                                         ·intro a' w' hF' hb hd
                                          exact dv0 (r_load (hF'.at 46 rfl) (ld_all ty_RMD ((st.bk 0 rfl).below hb) rfl)) rfl rfl rfl
                                         ·intro a' w' hF' hb hd
                                          have e93:=sHe hd 0 93 rfl rfl rfl rfl
                                          have e94:=sHe hd 1 94 rfl rfl rfl rfl
                                          exact dv0 (r_bin e93 e94 eg_RMD (ens_RMD (dec_ff hc31))) rfl rfl rfl
                                         intro a w33 hF bb hall hne
                                         replace st:=st.to bb
                                         have e95:=sSe hall 3 95 rfl rfl
                                         clear hall hne bb
                                         replace hF:=hF.add e95
                                         clear e95
                                         refine E.nil ?_
                                         refine wp_cond_true (hF.at 0 rfl) ?_
                                         refine wp_seq ?_
                                         refine E.seq ?_
                                         refine E.opset (L':=[(2,.int .i64 0),(95,.bool true),(91,.bool false),(90,.bool false),(89,.int .i64 n),(88,.bool false),(87,.bool false),(86,.int .i64 n),(9,.int .i64 n),(85,.int .i64 n),(84,.int .i64 (-((-((525972500*(((30*j)+d)-1))-133583340))/534333360))),(8,.int .i64 (-((-((525972500*(((30*j)+d)-1))-133583340))/534333360))),(83,.int .i64 (-((-((525972500*(((30*j)+d)-1))-133583340))/534333360))),(82,.int .i64 ((-((525972500*(((30*j)+d)-1))-133583340))/534333360)),(81,.int .i64 (-((525972500*(((30*j)+d)-1))-133583340))),(80,.int .i64 ((525972500*(((30*j)+d)-1))-133583340)),(79,.int .i64 (525972500*(((30*j)+d)-1))),(78,.int .i64 (((30*j)+d)-1)),(7,.int .i64 (((30*j)+d)-1)),(77,.int .i64 (((30*j)+d)-1)),(76,.int .i64 ((30*j)+d)),(75,.int .i64 d),(74,.pointer (some ⟨g1,3,none⟩)),(73,.int .i64 (30*j)),(72,.int .i64 j),(69,.bool false),(68,.bool false),(67,.int .i64 u),(66,.int .i64 (omU (j+1))),(65,.int .i64 (j+1)),(64,.int .i64 j),(63,.bool true),(62,.bool true),(61,.bool l),(60,.pointer (some ⟨g1,2,none⟩)),(55,.bool false),(54,.bool false),(53,.int .i64 u),(52,.int .i64 (omU j)),(51,.int .i64 j),(50,.bool true),(49,.bool true),(48,.int .i64 k),(6,.int .i64 k),(5,.int .i64 j),(4,.int .i64 u),(3,.int .i64 0),(1,.pointer (some ⟨g1,0,none⟩))]) hF (r_assign ev_c) rfl rfl rfl rfl fun a hF=>?_
                                         refine E.opset (L':=[(3,.int .i64 3),(2,.int .i64 0),(95,.bool true),(91,.bool false),(90,.bool false),(89,.int .i64 n),(88,.bool false),(87,.bool false),(86,.int .i64 n),(9,.int .i64 n),(85,.int .i64 n),(84,.int .i64 (-((-((525972500*(((30*j)+d)-1))-133583340))/534333360))),(8,.int .i64 (-((-((525972500*(((30*j)+d)-1))-133583340))/534333360))),(83,.int .i64 (-((-((525972500*(((30*j)+d)-1))-133583340))/534333360))),(82,.int .i64 ((-((525972500*(((30*j)+d)-1))-133583340))/534333360)),(81,.int .i64 (-((525972500*(((30*j)+d)-1))-133583340))),(80,.int .i64 ((525972500*(((30*j)+d)-1))-133583340)),(79,.int .i64 (525972500*(((30*j)+d)-1))),(78,.int .i64 (((30*j)+d)-1)),(7,.int .i64 (((30*j)+d)-1)),(77,.int .i64 (((30*j)+d)-1)),(76,.int .i64 ((30*j)+d)),(75,.int .i64 d),(74,.pointer (some ⟨g1,3,none⟩)),(73,.int .i64 (30*j)),(72,.int .i64 j),(69,.bool false),(68,.bool false),(67,.int .i64 u),(66,.int .i64 (omU (j+1))),(65,.int .i64 (j+1)),(64,.int .i64 j),(63,.bool true),(62,.bool true),(61,.bool l),(60,.pointer (some ⟨g1,2,none⟩)),(55,.bool false),(54,.bool false),(53,.int .i64 u),(52,.int .i64 (omU j)),(51,.int .i64 j),(50,.bool true),(49,.bool true),(48,.int .i64 k),(6,.int .i64 k),(5,.int .i64 j),(4,.int .i64 u),(1,.pointer (some ⟨g1,0,none⟩))]) hF (r_assign ev_c) rfl rfl rfl rfl fun a hF=>?_
                                         refine E.nil ?_
                                         refine wp_ret ?_
                                         have bel:=st.bel
                                         refine bodyPost_ret (res_tmp2 Try.results31 (hF.at 1 rfl) (hF.at 0 rfl)) hF.dfr ?_
                                         have hfx:=om_3 hnx (by omega) (by omega) (by omega) hc31
                                         exact⟨rv_int2 hfx.1 hfx.2,bel⟩)))))))
                    ·first
                     |(exfalso;omega)
                     |(refine E.opv hF (r_bin (hF.at 0 rfl) ev_c eg_scalar (bi_int (ic_lss (c:=false) (dec_ff hc10)) (by simp))) rfl rfl rfl rfl fun a hF=>?_
                       refine E.opv hF (r_move (hF.at 0 rfl)) rfl rfl rfl rfl fun a hF=>?_
                       refine E.unwanted hF (wanted_by rfl rfl (hF.at 0 rfl) rfl) rfl rfl rfl fun a hF=>?_
                       refine E.unwanted hF (wanted_by rfl rfl (hF.at 1 rfl) rfl) rfl rfl rfl fun a hF=>?_
                       refine E.unwanted hF (wanted_by rfl rfl (hF.at 2 rfl) rfl) rfl rfl rfl fun a hF=>?_
                       refine E.unwanted hF (wanted_by rfl rfl (hF.at 3 rfl) rfl) rfl rfl rfl fun a hF=>?_
                       refine E.opv hF (r_pick_f (hF.at 4 rfl) ev_c) rfl rfl rfl rfl fun a hF=>?_
                       refine E.nil ?_
                       refine wp_cond_false (hF.at 0 rfl) ?_
                       refine wp_exit ?_
                       refine E.past ?_
                       refine E.past ?_
                       refine E.out (id:=0) ?_
                       refine E.norm ?_
                       refine wp_seq ?_
                       refine wp_seq ?_
                       refine E.seq ?_
                       refine E.opv hF (r_field (hF.at 13 rfl) (fa_RMD_2 (p:=2) rfl)) rfl rfl rfl rfl fun a hF=>?_
                       refine E.opv hF (r_load (hF.at 0 rfl) (ldb_bool (v:= .bool l) (st.bk 0 rfl) rfl)) rfl rfl rfl rfl fun a hF=>?_
                       by_cases hc34:l=true
                       ·first
                        |(exfalso;omega)
                        |(refine E.opv hF (r_un (Eq.trans (hF.at 0 rfl) (congrArg Value.bool hc34)) (bn_not _ false rfl)) rfl rfl rfl rfl fun a hF=>?_
                          refine E.opv hF (r_move (hF.at 0 rfl)) rfl rfl rfl rfl fun a hF=>?_
                          refine E.unwanted hF (wanted_by rfl rfl (hF.at 0 rfl) rfl) rfl rfl rfl fun a hF=>?_
                          refine E.unwanted hF (wanted_by rfl rfl (hF.at 1 rfl) rfl) rfl rfl rfl fun a hF=>?_
                          refine E.unwanted hF (wanted_by rfl rfl (hF.at 2 rfl) rfl) rfl rfl rfl fun a hF=>?_
                          refine E.unwanted hF (wanted_by rfl rfl (hF.at 3 rfl) rfl) rfl rfl rfl fun a hF=>?_
                          refine E.unwanted hF (wanted_by rfl rfl (hF.at 4 rfl) rfl) rfl rfl rfl fun a hF=>?_
                          refine E.opv hF (r_pick_f (hF.at 5 rfl) ev_c) rfl rfl rfl rfl fun a hF=>?_
                          refine E.nil ?_
                          refine wp_cond_false (hF.at 0 rfl) ?_
                          refine wp_skip ?_
                          refine E.norm ?_
                          refine wp_seq ?_
                          refine E.seq ?_
                          refine E.opv hF (r_move (hF.at 19 rfl)) rfl rfl rfl rfl fun a hF=>?_
                          refine E.opv hF (r_bin ev_c (hF.at 0 rfl) eg_scalar (ia_mul (by omega) (by omega))) rfl rfl rfl rfl fun a hF=>?_
                          refine E.opv hF (r_field (hF.at 25 rfl) (fa_RMD_3 (p:=3) rfl)) rfl rfl rfl rfl fun a hF=>?_
                          refine E.opv hF (r_load (hF.at 0 rfl) (ldb_int (v:= .int .i64 d) (st.bk 0 rfl) rfl)) rfl rfl rfl rfl fun a hF=>?_
                          refine E.opv hF (r_bin (hF.at 2 rfl) (hF.at 0 rfl) eg_scalar (ia_add (by omega) (by omega))) rfl rfl rfl rfl fun a hF=>?_
                          refine E.opv hF (r_bin (hF.at 0 rfl) ev_c eg_scalar (ia_sub (by omega) (by omega))) rfl rfl rfl rfl fun a hF=>?_
                          refine E.opv hF (r_assign (hF.at 0 rfl)) rfl rfl rfl rfl fun a hF=>?_
                          have hje:j=omA u:=by omega
                          have hjn:j=omN (12*y+(m-1)) l:=by
                           rw[show 12*y+(m-1)=u by omega,hje]
                           exact om_end (fun h=>absurd h.1 (by rw[hc34];decide))
                          have hjb:=omN_bd (u:=12*y+(m-1)) (l:=l) (by omega) (by omega)
                          refine E.nil ?_
                          refine wp_seq ?_
                          refine E.seq ?_
                          refine E.opv hF (r_move (hF.at 0 rfl)) rfl rfl rfl rfl fun a hF=>?_
                          refine E.opv hF (r_bin ev_c (hF.at 0 rfl) eg_scalar (ia_mul (by omega) (by omega))) rfl rfl rfl rfl fun a hF=>?_
                          refine E.opv hF (r_bin (hF.at 0 rfl) ev_c eg_scalar (ia_sub (by omega) (by omega))) rfl rfl rfl rfl fun a hF=>?_
                          refine E.opv hF (r_un (hF.at 0 rfl) (bn_neg (by omega) (by omega))) rfl rfl rfl rfl fun a hF=>?_
                          refine S.callx st hF (r_call Try.func34 en34.1 en34.2 (map2 (hF.at 0 rfl) ev_c)) (r16fl_any (-((525972500*(((30*j)+d)-1))-133583340)) 534333360 _ (by omega) (by omega) (by omega) (by omega)) rfl rfl rfl rfl fun w35 a st hF=>?_
                          refine E.opv hF (r_un (hF.at 0 rfl) (bn_neg (by omega) (by omega))) rfl rfl rfl rfl fun a hF=>?_
                          refine E.opv hF (r_assign (hF.at 0 rfl)) rfl rfl rfl rfl fun a hF=>?_
                          refine E.nil ?_
                          refine wp_seq ?_
                          refine E.seq ?_
                          refine E.opv hF (r_move (hF.at 0 rfl)) rfl rfl rfl rfl fun a hF=>?_
                          refine E.opv hF (r_bin (hF.at 0 rfl) ev_c eg_scalar (ia_sub (by omega) (by omega))) rfl rfl rfl rfl fun a hF=>?_
                          refine E.opv hF (r_assign (hF.at 0 rfl)) rfl rfl rfl rfl fun a hF=>?_
                          obtain⟨n,hn⟩:∃n:Int,n=(-((-((525972500*(((30*j)+d)-1))-133583340))/534333360))-1132959:=⟨_,rfl⟩
                          rw[←hn] at hF
                          have hnx:n=omX y m l d:=by rw[hn,hjn,Int.add_sub_assoc];rfl
                          refine E.nil ?_
                          refine wp_seq ?_
                          refine wp_seq ?_
                          refine E.seq ?_
                          refine E.opv hF (r_move (hF.at 0 rfl)) rfl rfl rfl rfl fun a hF=>?_
                          by_cases hc36:n<(-3000000)
                          ·first
                           |(exfalso;omega)
                           |(refine E.opv hF (r_bin (hF.at 0 rfl) ev_c eg_scalar (bi_int (ic_lss (c:=true) (dec_tt hc36)) (by simp))) rfl rfl rfl rfl fun a hF=>?_
                             refine E.opv hF (r_move (hF.at 0 rfl)) rfl rfl rfl rfl fun a hF=>?_
                             refine E.unwanted hF (wanted_by rfl rfl (hF.at 0 rfl) rfl) rfl rfl rfl fun a hF=>?_
                             refine E.unwanted hF (wanted_by rfl rfl (hF.at 1 rfl) rfl) rfl rfl rfl fun a hF=>?_
                             refine E.opv hF (r_pick_t (hF.at 2 rfl) ev_c) rfl rfl rfl rfl fun a hF=>?_
                             refine E.nil ?_
                             refine wp_cond_true (hF.at 0 rfl) ?_
                             refine wp_seq ?_
                             refine E.seq ?_
                             refine E.opset (L':=[(2,.int .i64 0),(91,.bool true),(90,undef),(89,undef),(88,.bool true),(87,.bool true),(86,.int .i64 n),(9,.int .i64 n),(85,.int .i64 n),(84,.int .i64 (-((-((525972500*(((30*j)+d)-1))-133583340))/534333360))),(8,.int .i64 (-((-((525972500*(((30*j)+d)-1))-133583340))/534333360))),(83,.int .i64 (-((-((525972500*(((30*j)+d)-1))-133583340))/534333360))),(82,.int .i64 ((-((525972500*(((30*j)+d)-1))-133583340))/534333360)),(81,.int .i64 (-((525972500*(((30*j)+d)-1))-133583340))),(80,.int .i64 ((525972500*(((30*j)+d)-1))-133583340)),(79,.int .i64 (525972500*(((30*j)+d)-1))),(78,.int .i64 (((30*j)+d)-1)),(7,.int .i64 (((30*j)+d)-1)),(77,.int .i64 (((30*j)+d)-1)),(76,.int .i64 ((30*j)+d)),(75,.int .i64 d),(74,.pointer (some ⟨g1,3,none⟩)),(73,.int .i64 (30*j)),(72,.int .i64 j),(69,.bool false),(68,undef),(67,undef),(66,undef),(65,undef),(64,undef),(63,.bool false),(62,.bool false),(61,.bool l),(60,.pointer (some ⟨g1,2,none⟩)),(55,.bool false),(54,undef),(53,undef),(52,undef),(51,undef),(50,.bool false),(49,.bool false),(48,.int .i64 k),(6,.int .i64 k),(5,.int .i64 j),(4,.int .i64 u),(3,.int .i64 0),(1,.pointer (some ⟨g1,0,none⟩))]) hF (r_assign ev_c) rfl rfl rfl rfl fun a hF=>?_
                             refine E.opset (L':=[(3,.int .i64 2),(2,.int .i64 0),(91,.bool true),(90,undef),(89,undef),(88,.bool true),(87,.bool true),(86,.int .i64 n),(9,.int .i64 n),(85,.int .i64 n),(84,.int .i64 (-((-((525972500*(((30*j)+d)-1))-133583340))/534333360))),(8,.int .i64 (-((-((525972500*(((30*j)+d)-1))-133583340))/534333360))),(83,.int .i64 (-((-((525972500*(((30*j)+d)-1))-133583340))/534333360))),(82,.int .i64 ((-((525972500*(((30*j)+d)-1))-133583340))/534333360)),(81,.int .i64 (-((525972500*(((30*j)+d)-1))-133583340))),(80,.int .i64 ((525972500*(((30*j)+d)-1))-133583340)),(79,.int .i64 (525972500*(((30*j)+d)-1))),(78,.int .i64 (((30*j)+d)-1)),(7,.int .i64 (((30*j)+d)-1)),(77,.int .i64 (((30*j)+d)-1)),(76,.int .i64 ((30*j)+d)),(75,.int .i64 d),(74,.pointer (some ⟨g1,3,none⟩)),(73,.int .i64 (30*j)),(72,.int .i64 j),(69,.bool false),(68,undef),(67,undef),(66,undef),(65,undef),(64,undef),(63,.bool false),(62,.bool false),(61,.bool l),(60,.pointer (some ⟨g1,2,none⟩)),(55,.bool false),(54,undef),(53,undef),(52,undef),(51,undef),(50,.bool false),(49,.bool false),(48,.int .i64 k),(6,.int .i64 k),(5,.int .i64 j),(4,.int .i64 u),(1,.pointer (some ⟨g1,0,none⟩))]) hF (r_assign ev_c) rfl rfl rfl rfl fun a hF=>?_
                             refine E.nil ?_
                             refine wp_ret ?_
                             have bel:=st.bel
                             refine bodyPost_ret (res_tmp2 Try.results31 (hF.at 1 rfl) (hF.at 0 rfl)) hF.dfr ?_
                             have hfx:=om_2f hnx (by omega) (by omega) (by omega)
                             exact⟨rv_int2 hfx.1 hfx.2,bel⟩)
                          ·first
                           |(exfalso;omega)
                           |(refine E.opv hF (r_bin (hF.at 0 rfl) ev_c eg_scalar (bi_int (ic_lss (c:=false) (dec_ff hc36)) (by simp))) rfl rfl rfl rfl fun a hF=>?_
                             refine E.opv hF (r_move (hF.at 0 rfl)) rfl rfl rfl rfl fun a hF=>?_
                             refine E.opvg hF (r_move (hF.at 3 rfl)) (wanted_by rfl rfl (hF.at 0 rfl) rfl) rfl rfl rfl fun a hF=>?_
                             by_cases hc37:3000000<n
                             ·first
                              |(exfalso;omega)
                              |(refine E.opvg hF (r_bin (hF.at 0 rfl) ev_c eg_scalar (bi_int (ic_gtr (c:=true) (dec_tt hc37)) (by simp))) (wanted_by rfl rfl (hF.at 1 rfl) rfl) rfl rfl rfl fun a hF=>?_
                                refine E.opv hF (r_pick_f (hF.at 2 rfl) (hF.at 0 rfl)) rfl rfl rfl rfl fun a hF=>?_
                                refine E.nil ?_
                                refine wp_cond_true (hF.at 0 rfl) ?_
                                refine wp_seq ?_
                                refine E.seq ?_
                                refine E.opset (L':=[(2,.int .i64 0),(91,.bool true),(90,.bool true),(89,.int .i64 n),(88,.bool false),(87,.bool false),(86,.int .i64 n),(9,.int .i64 n),(85,.int .i64 n),(84,.int .i64 (-((-((525972500*(((30*j)+d)-1))-133583340))/534333360))),(8,.int .i64 (-((-((525972500*(((30*j)+d)-1))-133583340))/534333360))),(83,.int .i64 (-((-((525972500*(((30*j)+d)-1))-133583340))/534333360))),(82,.int .i64 ((-((525972500*(((30*j)+d)-1))-133583340))/534333360)),(81,.int .i64 (-((525972500*(((30*j)+d)-1))-133583340))),(80,.int .i64 ((525972500*(((30*j)+d)-1))-133583340)),(79,.int .i64 (525972500*(((30*j)+d)-1))),(78,.int .i64 (((30*j)+d)-1)),(7,.int .i64 (((30*j)+d)-1)),(77,.int .i64 (((30*j)+d)-1)),(76,.int .i64 ((30*j)+d)),(75,.int .i64 d),(74,.pointer (some ⟨g1,3,none⟩)),(73,.int .i64 (30*j)),(72,.int .i64 j),(69,.bool false),(68,undef),(67,undef),(66,undef),(65,undef),(64,undef),(63,.bool false),(62,.bool false),(61,.bool l),(60,.pointer (some ⟨g1,2,none⟩)),(55,.bool false),(54,undef),(53,undef),(52,undef),(51,undef),(50,.bool false),(49,.bool false),(48,.int .i64 k),(6,.int .i64 k),(5,.int .i64 j),(4,.int .i64 u),(3,.int .i64 0),(1,.pointer (some ⟨g1,0,none⟩))]) hF (r_assign ev_c) rfl rfl rfl rfl fun a hF=>?_
                                refine E.opset (L':=[(3,.int .i64 2),(2,.int .i64 0),(91,.bool true),(90,.bool true),(89,.int .i64 n),(88,.bool false),(87,.bool false),(86,.int .i64 n),(9,.int .i64 n),(85,.int .i64 n),(84,.int .i64 (-((-((525972500*(((30*j)+d)-1))-133583340))/534333360))),(8,.int .i64 (-((-((525972500*(((30*j)+d)-1))-133583340))/534333360))),(83,.int .i64 (-((-((525972500*(((30*j)+d)-1))-133583340))/534333360))),(82,.int .i64 ((-((525972500*(((30*j)+d)-1))-133583340))/534333360)),(81,.int .i64 (-((525972500*(((30*j)+d)-1))-133583340))),(80,.int .i64 ((525972500*(((30*j)+d)-1))-133583340)),(79,.int .i64 (525972500*(((30*j)+d)-1))),(78,.int .i64 (((30*j)+d)-1)),(7,.int .i64 (((30*j)+d)-1)),(77,.int .i64 (((30*j)+d)-1)),(76,.int .i64 ((30*j)+d)),(75,.int .i64 d),(74,.pointer (some ⟨g1,3,none⟩)),(73,.int .i64 (30*j)),(72,.int .i64 j),(69,.bool false),(68,undef),(67,undef),(66,undef),(65,undef),(64,undef),(63,.bool false),(62,.bool false),(61,.bool l),(60,.pointer (some ⟨g1,2,none⟩)),(55,.bool false),(54,undef),(53,undef),(52,undef),(51,undef),(50,.bool false),(49,.bool false),(48,.int .i64 k),(6,.int .i64 k),(5,.int .i64 j),(4,.int .i64 u),(1,.pointer (some ⟨g1,0,none⟩))]) hF (r_assign ev_c) rfl rfl rfl rfl fun a hF=>?_
                                refine E.nil ?_
                                refine wp_ret ?_
                                have bel:=st.bel
                                refine bodyPost_ret (res_tmp2 Try.results31 (hF.at 1 rfl) (hF.at 0 rfl)) hF.dfr ?_
                                have hfx:=om_2f hnx (by omega) (by omega) (by omega)
                                exact⟨rv_int2 hfx.1 hfx.2,bel⟩)
                             ·first
                              |(exfalso;omega)
                              |(refine E.opvg hF (r_bin (hF.at 0 rfl) ev_c eg_scalar (bi_int (ic_gtr (c:=false) (dec_ff hc37)) (by simp))) (wanted_by rfl rfl (hF.at 1 rfl) rfl) rfl rfl rfl fun a hF=>?_
                                refine E.opv hF (r_pick_f (hF.at 2 rfl) (hF.at 0 rfl)) rfl rfl rfl rfl fun a hF=>?_
                                refine E.nil ?_
                                refine wp_cond_false (hF.at 0 rfl) ?_
                                refine wp_skip ?_
                                refine E.norm ?_
                                refine wp_seq ?_
                                refine wp_seq ?_
                                by_cases hc38:(omU (omJ n)/12)=y∧(omU (omJ n)%12+1)=m∧(decide (omU (omJ n+1)=omU (omJ n)))=l∧(omL n-30*omJ n+1)=d
                                ·first
                                 |(exfalso;omega)
                                 |(refine E.drawn 4 mixed hF [92,93,94,95] [(fun _ v=>v= .int .i64 n),(fun _ v=>v= .agg #[.int .i64 (omU (omJ n)/12),.int .i64 (omU (omJ n)%12+1),.bool (decide (omU (omJ n+1)=omU (omJ n))),.int .i64 (omL n-30*omJ n+1)]),(fun _ v=>v= .agg #[.int .i64 y,.int .i64 m,.bool l,.int .i64 d]),(fun _ v=>v= .bool false)] [] (by decide+kernel) (by decide+kernel) rfl rfl rfl ⟨(Mb.eq _),(Mb.eq _),(Mb.eq _),(Mb.eq _),trivial⟩ trivial ⟨?_,?_,?_,?_,trivial⟩ ?_
                                   ·intro a' w' hF' hb hd
                                    exact dv0 (r_move (hF'.at 6 rfl)) rfl rfl rfl
                                   ·intro a' w' hF' hb hd
                                    have e92:=sHe hd 0 92 rfl rfl rfl rfl
                                    exact dcx0 (r_call Try.func28 en28.1 en28.2 (map1 e92)) (r17of_any n _ (by omega) (by omega)) (fun _=>rfl) rfl rfl
                                   ·intro a' w' hF' hb hd
                                    exact dv0 (r_load (hF'.at 46 rfl) (ld_all ty_RMD ((st.bk 0 rfl).below hb) rfl)) rfl rfl rfl
                                   ·intro a' w' hF' hb hd
                                    have e93:=sHe hd 0 93 rfl rfl rfl rfl
                                    have e94:=sHe hd 1 94 rfl rfl rfl rfl
                                    exact dv0 (r_bin e93 e94 eg_RMD (ens_RMD (dec_tt hc38))) rfl rfl rfl
                                   intro a w39 hF bb hall hne
                                   replace st:=st.to bb
                                   have e95:=sSe hall 3 95 rfl rfl
                                   clear hall hne bb
                                   replace hF:=hF.add e95
                                   clear e95
                                   refine E.nil ?_
                                   refine wp_cond_false (hF.at 0 rfl) ?_
                                   refine wp_skip ?_
                                   refine E.norm ?_
                                   refine wp_seq ?_
                                   refine E.seq ?_
                                   refine E.opv hF (r_move (hF.at 7 rfl)) rfl rfl rfl rfl fun a hF=>?_
                                   refine E.opset (L':=[(2,.int .i64 n),(96,.int .i64 n),(95,.bool false),(91,.bool false),(90,.bool false),(89,.int .i64 n),(88,.bool false),(87,.bool false),(86,.int .i64 n),(9,.int .i64 n),(85,.int .i64 n),(84,.int .i64 (-((-((525972500*(((30*j)+d)-1))-133583340))/534333360))),(8,.int .i64 (-((-((525972500*(((30*j)+d)-1))-133583340))/534333360))),(83,.int .i64 (-((-((525972500*(((30*j)+d)-1))-133583340))/534333360))),(82,.int .i64 ((-((525972500*(((30*j)+d)-1))-133583340))/534333360)),(81,.int .i64 (-((525972500*(((30*j)+d)-1))-133583340))),(80,.int .i64 ((525972500*(((30*j)+d)-1))-133583340)),(79,.int .i64 (525972500*(((30*j)+d)-1))),(78,.int .i64 (((30*j)+d)-1)),(7,.int .i64 (((30*j)+d)-1)),(77,.int .i64 (((30*j)+d)-1)),(76,.int .i64 ((30*j)+d)),(75,.int .i64 d),(74,.pointer (some ⟨g1,3,none⟩)),(73,.int .i64 (30*j)),(72,.int .i64 j),(69,.bool false),(68,undef),(67,undef),(66,undef),(65,undef),(64,undef),(63,.bool false),(62,.bool false),(61,.bool l),(60,.pointer (some ⟨g1,2,none⟩)),(55,.bool false),(54,undef),(53,undef),(52,undef),(51,undef),(50,.bool false),(49,.bool false),(48,.int .i64 k),(6,.int .i64 k),(5,.int .i64 j),(4,.int .i64 u),(3,.int .i64 0),(1,.pointer (some ⟨g1,0,none⟩))]) hF (r_assign (hF.at 0 rfl)) rfl rfl rfl rfl fun a hF=>?_
                                   refine E.opset (L':=[(3,.int .i64 0),(2,.int .i64 n),(96,.int .i64 n),(95,.bool false),(91,.bool false),(90,.bool false),(89,.int .i64 n),(88,.bool false),(87,.bool false),(86,.int .i64 n),(9,.int .i64 n),(85,.int .i64 n),(84,.int .i64 (-((-((525972500*(((30*j)+d)-1))-133583340))/534333360))),(8,.int .i64 (-((-((525972500*(((30*j)+d)-1))-133583340))/534333360))),(83,.int .i64 (-((-((525972500*(((30*j)+d)-1))-133583340))/534333360))),(82,.int .i64 ((-((525972500*(((30*j)+d)-1))-133583340))/534333360)),(81,.int .i64 (-((525972500*(((30*j)+d)-1))-133583340))),(80,.int .i64 ((525972500*(((30*j)+d)-1))-133583340)),(79,.int .i64 (525972500*(((30*j)+d)-1))),(78,.int .i64 (((30*j)+d)-1)),(7,.int .i64 (((30*j)+d)-1)),(77,.int .i64 (((30*j)+d)-1)),(76,.int .i64 ((30*j)+d)),(75,.int .i64 d),(74,.pointer (some ⟨g1,3,none⟩)),(73,.int .i64 (30*j)),(72,.int .i64 j),(69,.bool false),(68,undef),(67,undef),(66,undef),(65,undef),(64,undef),(63,.bool false),(62,.bool false),(61,.bool l),(60,.pointer (some ⟨g1,2,none⟩)),(55,.bool false),(54,undef),(53,undef),(52,undef),(51,undef),(50,.bool false),(49,.bool false),(48,.int .i64 k),(6,.int .i64 k),(5,.int .i64 j),(4,.int .i64 u),(1,.pointer (some ⟨g1,0,none⟩))]) hF (r_assign ev_c) rfl rfl rfl rfl fun a hF=>?_
                                   refine E.nil ?_
                                   refine wp_ret ?_
                                   have bel:=st.bel
                                   refine bodyPost_ret (res_tmp2 Try.results31 (hF.at 1 rfl) (hF.at 0 rfl)) hF.dfr ?_
                                   have hfx:=om_0 hnx (by omega) (by omega) (by omega) hc38
                                   exact⟨rv_int2 hfx.1 hfx.2,bel⟩)
                                ·first
                                 |(exfalso;omega)
                                 |(refine E.drawn 4 mixed hF [92,93,94,95] [(fun _ v=>v= .int .i64 n),(fun _ v=>v= .agg #[.int .i64 (omU (omJ n)/12),.int .i64 (omU (omJ n)%12+1),.bool (decide (omU (omJ n+1)=omU (omJ n))),.int .i64 (omL n-30*omJ n+1)]),(fun _ v=>v= .agg #[.int .i64 y,.int .i64 m,.bool l,.int .i64 d]),(fun _ v=>v= .bool true)] [] (by decide+kernel) (by decide+kernel) rfl rfl rfl ⟨(Mb.eq _),(Mb.eq _),(Mb.eq _),(Mb.eq _),trivial⟩ trivial ⟨?_,?_,?_,?_,trivial⟩ ?_
                                   ·intro a' w' hF' hb hd
                                    exact dv0 (r_move (hF'.at 6 rfl)) rfl rfl rfl
                                   ·intro a' w' hF' hb hd
                                    have e92:=sHe hd 0 92 rfl rfl rfl rfl
                                    exact dcx0 (r_call Try.func28 en28.1 en28.2 (map1 e92)) (r17of_any n _ (by omega) (by omega)) (fun _=>rfl) rfl rfl
                                   ·intro a' w' hF' hb hd
                                    exact dv0 (r_load (hF'.at 46 rfl) (ld_all ty_RMD ((st.bk 0 rfl).below hb) rfl)) rfl rfl rfl
                                   ·intro a' w' hF' hb hd
                                    have e93:=sHe hd 0 93 rfl rfl rfl rfl
                                    have e94:=sHe hd 1 94 rfl rfl rfl rfl
                                    exact dv0 (r_bin e93 e94 eg_RMD (ens_RMD (dec_ff hc38))) rfl rfl rfl
                                   intro a w40 hF bb hall hne
                                   replace st:=st.to bb
                                   have e95:=sSe hall 3 95 rfl rfl
                                   clear hall hne bb
                                   replace hF:=hF.add e95
                                   clear e95
                                   refine E.nil ?_
                                   refine wp_cond_true (hF.at 0 rfl) ?_
                                   refine wp_seq ?_
                                   refine E.seq ?_
                                   refine E.opset (L':=[(2,.int .i64 0),(95,.bool true),(91,.bool false),(90,.bool false),(89,.int .i64 n),(88,.bool false),(87,.bool false),(86,.int .i64 n),(9,.int .i64 n),(85,.int .i64 n),(84,.int .i64 (-((-((525972500*(((30*j)+d)-1))-133583340))/534333360))),(8,.int .i64 (-((-((525972500*(((30*j)+d)-1))-133583340))/534333360))),(83,.int .i64 (-((-((525972500*(((30*j)+d)-1))-133583340))/534333360))),(82,.int .i64 ((-((525972500*(((30*j)+d)-1))-133583340))/534333360)),(81,.int .i64 (-((525972500*(((30*j)+d)-1))-133583340))),(80,.int .i64 ((525972500*(((30*j)+d)-1))-133583340)),(79,.int .i64 (525972500*(((30*j)+d)-1))),(78,.int .i64 (((30*j)+d)-1)),(7,.int .i64 (((30*j)+d)-1)),(77,.int .i64 (((30*j)+d)-1)),(76,.int .i64 ((30*j)+d)),(75,.int .i64 d),(74,.pointer (some ⟨g1,3,none⟩)),(73,.int .i64 (30*j)),(72,.int .i64 j),(69,.bool false),(68,undef),(67,undef),(66,undef),(65,undef),(64,undef),(63,.bool false),(62,.bool false),(61,.bool l),(60,.pointer (some ⟨g1,2,none⟩)),(55,.bool false),(54,undef),(53,undef),(52,undef),(51,undef),(50,.bool false),(49,.bool false),(48,.int .i64 k),(6,.int .i64 k),(5,.int .i64 j),(4,.int .i64 u),(3,.int .i64 0),(1,.pointer (some ⟨g1,0,none⟩))]) hF (r_assign ev_c) rfl rfl rfl rfl fun a hF=>?_
                                   refine E.opset (L':=[(3,.int .i64 3),(2,.int .i64 0),(95,.bool true),(91,.bool false),(90,.bool false),(89,.int .i64 n),(88,.bool false),(87,.bool false),(86,.int .i64 n),(9,.int .i64 n),(85,.int .i64 n),(84,.int .i64 (-((-((525972500*(((30*j)+d)-1))-133583340))/534333360))),(8,.int .i64 (-((-((525972500*(((30*j)+d)-1))-133583340))/534333360))),(83,.int .i64 (-((-((525972500*(((30*j)+d)-1))-133583340))/534333360))),(82,.int .i64 ((-((525972500*(((30*j)+d)-1))-133583340))/534333360)),(81,.int .i64 (-((525972500*(((30*j)+d)-1))-133583340))),(80,.int .i64 ((525972500*(((30*j)+d)-1))-133583340)),(79,.int .i64 (525972500*(((30*j)+d)-1))),(78,.int .i64 (((30*j)+d)-1)),(7,.int .i64 (((30*j)+d)-1)),(77,.int .i64 (((30*j)+d)-1)),(76,.int .i64 ((30*j)+d)),(75,.int .i64 d),(74,.pointer (some ⟨g1,3,none⟩)),(73,.int .i64 (30*j)),(72,.int .i64 j),(69,.bool false),(68,undef),(67,undef),(66,undef),(65,undef),(64,undef),(63,.bool false),(62,.bool false),(61,.bool l),(60,.pointer (some ⟨g1,2,none⟩)),(55,.bool false),(54,undef),(53,undef),(52,undef),(51,undef),(50,.bool false),(49,.bool false),(48,.int .i64 k),(6,.int .i64 k),(5,.int .i64 j),(4,.int .i64 u),(1,.pointer (some ⟨g1,0,none⟩))]) hF (r_assign ev_c) rfl rfl rfl rfl fun a hF=>?_
                                   refine E.nil ?_
                                   refine wp_ret ?_
                                   have bel:=st.bel
                                   refine bodyPost_ret (res_tmp2 Try.results31 (hF.at 1 rfl) (hF.at 0 rfl)) hF.dfr ?_
                                   have hfx:=om_3 hnx (by omega) (by omega) (by omega) hc38
                                   exact⟨rv_int2 hfx.1 hfx.2,bel⟩))))
                       ·first
                        |(exfalso;omega)
                        |(refine E.opv hF (r_un (Eq.trans (hF.at 0 rfl) (congrArg Value.bool (eq_false_of_ne_true hc34))) (bn_not _ true rfl)) rfl rfl rfl rfl fun a hF=>?_
                          refine E.opv hF (r_move (hF.at 0 rfl)) rfl rfl rfl rfl fun a hF=>?_
                          refine E.opvg hF (r_move (hF.at 13 rfl)) (wanted_by rfl rfl (hF.at 0 rfl) rfl) rfl rfl rfl fun a hF=>?_
                          refine E.opvg hF (r_bin (hF.at 0 rfl) ev_c eg_scalar (ia_add (by omega) (by omega))) (wanted_by rfl rfl (hF.at 1 rfl) rfl) rfl rfl rfl fun a hF=>?_
                          refine S.callxg st hF (wanted_by rfl rfl (hF.at 2 rfl) rfl) (r_call Try.func33 en33.1 en33.2 (map1 (hF.at 0 rfl))) (r17u_any (j+1) _ (by omega) (by omega)) rfl rfl rfl fun w41 a st hF=>?_
                          have hru40:=omU_in2 (j:=j+1) (by omega) (by omega)
                          refine E.opvg hF (r_move (hF.at 17 rfl)) (wanted_by rfl rfl (hF.at 3 rfl) rfl) rfl rfl rfl fun a hF=>?_
                          by_cases hc42:omU (j+1)=u
                          ·first
                           |(exfalso;omega)
                           |(refine E.opvg hF (r_bin (hF.at 1 rfl) (hF.at 0 rfl) eg_scalar (bi_int (ic_eql (c:=true) (dec_tt hc42)) (by simp))) (wanted_by rfl rfl (hF.at 4 rfl) rfl) rfl rfl rfl fun a hF=>?_
                             refine E.opv hF (r_pick_t (hF.at 5 rfl) (hF.at 0 rfl)) rfl rfl rfl rfl fun a hF=>?_
                             refine E.nil ?_
                             refine wp_cond_true (hF.at 0 rfl) ?_
                             refine E.seq ?_
                             refine E.opv hF (r_move (hF.at 19 rfl)) rfl rfl rfl rfl fun a hF=>?_
                             refine E.opv hF (r_bin (hF.at 0 rfl) ev_c eg_scalar (ia_add (by omega) (by omega))) rfl rfl rfl rfl fun a hF=>?_
                             refine E.opset (L':=[(5,.int .i64 (j+1)),(71,.int .i64 (j+1)),(70,.int .i64 j),(69,.bool true),(68,.bool true),(67,.int .i64 u),(66,.int .i64 (omU (j+1))),(65,.int .i64 (j+1)),(64,.int .i64 j),(63,.bool true),(62,.bool true),(61,.bool l),(60,.pointer (some ⟨g1,2,none⟩)),(55,.bool false),(54,undef),(53,undef),(52,undef),(51,undef),(50,.bool false),(49,.bool false),(48,.int .i64 k),(6,.int .i64 k),(4,.int .i64 u),(3,.int .i64 0),(2,.int .i64 0),(1,.pointer (some ⟨g1,0,none⟩))]) hF (r_assign (hF.at 0 rfl)) rfl rfl rfl rfl fun a hF=>?_
                             refine E.nil ?_
                             refine wp_seq ?_
                             refine E.seq ?_
                             refine E.opv hF (r_move (hF.at 0 rfl)) rfl rfl rfl rfl fun a hF=>?_
                             refine E.opv hF (r_bin ev_c (hF.at 0 rfl) eg_scalar (ia_mul (by omega) (by omega))) rfl rfl rfl rfl fun a hF=>?_
                             refine E.opv hF (r_field (hF.at 27 rfl) (fa_RMD_3 (p:=3) rfl)) rfl rfl rfl rfl fun a hF=>?_
                             refine E.opv hF (r_load (hF.at 0 rfl) (ldb_int (v:= .int .i64 d) (st.bk 0 rfl) rfl)) rfl rfl rfl rfl fun a hF=>?_
                             refine E.opv hF (r_bin (hF.at 2 rfl) (hF.at 0 rfl) eg_scalar (ia_add (by omega) (by omega))) rfl rfl rfl rfl fun a hF=>?_
                             refine E.opv hF (r_bin (hF.at 0 rfl) ev_c eg_scalar (ia_sub (by omega) (by omega))) rfl rfl rfl rfl fun a hF=>?_
                             refine E.opv hF (r_assign (hF.at 0 rfl)) rfl rfl rfl rfl fun a hF=>?_
                             have hje:j=omA u:=by omega
                             have hjn:j+1=omN (12*y+(m-1)) l:=by
                              rw[show 12*y+(m-1)=u by omega,hje]
                              exact om_end2 (eq_false_of_ne_true hc34) (by rw[←hje];exact hc42)
                             have hjb:=omN_bd (u:=12*y+(m-1)) (l:=l) (by omega) (by omega)
                             refine E.nil ?_
                             refine wp_seq ?_
                             refine E.seq ?_
                             refine E.opv hF (r_move (hF.at 0 rfl)) rfl rfl rfl rfl fun a hF=>?_
                             refine E.opv hF (r_bin ev_c (hF.at 0 rfl) eg_scalar (ia_mul (by omega) (by omega))) rfl rfl rfl rfl fun a hF=>?_
                             refine E.opv hF (r_bin (hF.at 0 rfl) ev_c eg_scalar (ia_sub (by omega) (by omega))) rfl rfl rfl rfl fun a hF=>?_
                             refine E.opv hF (r_un (hF.at 0 rfl) (bn_neg (by omega) (by omega))) rfl rfl rfl rfl fun a hF=>?_
                             refine S.callx st hF (r_call Try.func34 en34.1 en34.2 (map2 (hF.at 0 rfl) ev_c)) (r16fl_any (-((525972500*(((30*(j+1))+d)-1))-133583340)) 534333360 _ (by omega) (by omega) (by omega) (by omega)) rfl rfl rfl rfl fun w43 a st hF=>?_
                             refine E.opv hF (r_un (hF.at 0 rfl) (bn_neg (by omega) (by omega))) rfl rfl rfl rfl fun a hF=>?_
                             refine E.opv hF (r_assign (hF.at 0 rfl)) rfl rfl rfl rfl fun a hF=>?_
                             refine E.nil ?_
                             refine wp_seq ?_
                             refine E.seq ?_
                             refine E.opv hF (r_move (hF.at 0 rfl)) rfl rfl rfl rfl fun a hF=>?_
                             refine E.opv hF (r_bin (hF.at 0 rfl) ev_c eg_scalar (ia_sub (by omega) (by omega))) rfl rfl rfl rfl fun a hF=>?_
                             refine E.opv hF (r_assign (hF.at 0 rfl)) rfl rfl rfl rfl fun a hF=>?_
                             obtain⟨n,hn⟩:∃n:Int,n=(-((-((525972500*(((30*(j+1))+d)-1))-133583340))/534333360))-1132959:=⟨_,rfl⟩
                             rw[←hn] at hF
                             have hnx:n=omX y m l d:=by rw[hn,hjn,Int.add_sub_assoc];rfl
                             refine E.nil ?_
                             refine wp_seq ?_
                             refine wp_seq ?_
                             refine E.seq ?_
                             refine E.opv hF (r_move (hF.at 0 rfl)) rfl rfl rfl rfl fun a hF=>?_
                             by_cases hc44:n<(-3000000)
                             ·first
                              |(exfalso;omega)
                              |(refine E.opv hF (r_bin (hF.at 0 rfl) ev_c eg_scalar (bi_int (ic_lss (c:=true) (dec_tt hc44)) (by simp))) rfl rfl rfl rfl fun a hF=>?_
                                refine E.opv hF (r_move (hF.at 0 rfl)) rfl rfl rfl rfl fun a hF=>?_
                                refine E.unwanted hF (wanted_by rfl rfl (hF.at 0 rfl) rfl) rfl rfl rfl fun a hF=>?_
                                refine E.unwanted hF (wanted_by rfl rfl (hF.at 1 rfl) rfl) rfl rfl rfl fun a hF=>?_
                                refine E.opv hF (r_pick_t (hF.at 2 rfl) ev_c) rfl rfl rfl rfl fun a hF=>?_
                                refine E.nil ?_
                                refine wp_cond_true (hF.at 0 rfl) ?_
                                refine wp_seq ?_
                                refine E.seq ?_
                                refine E.opset (L':=[(2,.int .i64 0),(91,.bool true),(90,undef),(89,undef),(88,.bool true),(87,.bool true),(86,.int .i64 n),(9,.int .i64 n),(85,.int .i64 n),(84,.int .i64 (-((-((525972500*(((30*(j+1))+d)-1))-133583340))/534333360))),(8,.int .i64 (-((-((525972500*(((30*(j+1))+d)-1))-133583340))/534333360))),(83,.int .i64 (-((-((525972500*(((30*(j+1))+d)-1))-133583340))/534333360))),(82,.int .i64 ((-((525972500*(((30*(j+1))+d)-1))-133583340))/534333360)),(81,.int .i64 (-((525972500*(((30*(j+1))+d)-1))-133583340))),(80,.int .i64 ((525972500*(((30*(j+1))+d)-1))-133583340)),(79,.int .i64 (525972500*(((30*(j+1))+d)-1))),(78,.int .i64 (((30*(j+1))+d)-1)),(7,.int .i64 (((30*(j+1))+d)-1)),(77,.int .i64 (((30*(j+1))+d)-1)),(76,.int .i64 ((30*(j+1))+d)),(75,.int .i64 d),(74,.pointer (some ⟨g1,3,none⟩)),(73,.int .i64 (30*(j+1))),(72,.int .i64 (j+1)),(5,.int .i64 (j+1)),(71,.int .i64 (j+1)),(70,.int .i64 j),(69,.bool true),(68,.bool true),(67,.int .i64 u),(66,.int .i64 (omU (j+1))),(65,.int .i64 (j+1)),(64,.int .i64 j),(63,.bool true),(62,.bool true),(61,.bool l),(60,.pointer (some ⟨g1,2,none⟩)),(55,.bool false),(54,undef),(53,undef),(52,undef),(51,undef),(50,.bool false),(49,.bool false),(48,.int .i64 k),(6,.int .i64 k),(4,.int .i64 u),(3,.int .i64 0),(1,.pointer (some ⟨g1,0,none⟩))]) hF (r_assign ev_c) rfl rfl rfl rfl fun a hF=>?_
                                refine E.opset (L':=[(3,.int .i64 2),(2,.int .i64 0),(91,.bool true),(90,undef),(89,undef),(88,.bool true),(87,.bool true),(86,.int .i64 n),(9,.int .i64 n),(85,.int .i64 n),(84,.int .i64 (-((-((525972500*(((30*(j+1))+d)-1))-133583340))/534333360))),(8,.int .i64 (-((-((525972500*(((30*(j+1))+d)-1))-133583340))/534333360))),(83,.int .i64 (-((-((525972500*(((30*(j+1))+d)-1))-133583340))/534333360))),(82,.int .i64 ((-((525972500*(((30*(j+1))+d)-1))-133583340))/534333360)),(81,.int .i64 (-((525972500*(((30*(j+1))+d)-1))-133583340))),(80,.int .i64 ((525972500*(((30*(j+1))+d)-1))-133583340)),(79,.int .i64 (525972500*(((30*(j+1))+d)-1))),(78,.int .i64 (((30*(j+1))+d)-1)),(7,.int .i64 (((30*(j+1))+d)-1)),(77,.int .i64 (((30*(j+1))+d)-1)),(76,.int .i64 ((30*(j+1))+d)),(75,.int .i64 d),(74,.pointer (some ⟨g1,3,none⟩)),(73,.int .i64 (30*(j+1))),(72,.int .i64 (j+1)),(5,.int .i64 (j+1)),(71,.int .i64 (j+1)),(70,.int .i64 j),(69,.bool true),(68,.bool true),(67,.int .i64 u),(66,.int .i64 (omU (j+1))),(65,.int .i64 (j+1)),(64,.int .i64 j),(63,.bool true),(62,.bool true),(61,.bool l),(60,.pointer (some ⟨g1,2,none⟩)),(55,.bool false),(54,undef),(53,undef),(52,undef),(51,undef),(50,.bool false),(49,.bool false),(48,.int .i64 k),(6,.int .i64 k),(4,.int .i64 u),(1,.pointer (some ⟨g1,0,none⟩))]) hF (r_assign ev_c) rfl rfl rfl rfl fun a hF=>?_
                                refine E.nil ?_
                                refine wp_ret ?_
                                have bel:=st.bel
                                refine bodyPost_ret (res_tmp2 Try.results31 (hF.at 1 rfl) (hF.at 0 rfl)) hF.dfr ?_
                                have hfx:=om_2f hnx (by omega) (by omega) (by omega)
                                exact⟨rv_int2 hfx.1 hfx.2,bel⟩)
                             ·first
                              |(exfalso;omega)
                              |(refine E.opv hF (r_bin (hF.at 0 rfl) ev_c eg_scalar (bi_int (ic_lss (c:=false) (dec_ff hc44)) (by simp))) rfl rfl rfl rfl fun a hF=>?_
                                refine E.opv hF (r_move (hF.at 0 rfl)) rfl rfl rfl rfl fun a hF=>?_
                                refine E.opvg hF (r_move (hF.at 3 rfl)) (wanted_by rfl rfl (hF.at 0 rfl) rfl) rfl rfl rfl fun a hF=>?_
                                by_cases hc45:3000000<n
                                ·first
                                 |(exfalso;omega)
                                 |(refine E.opvg hF (r_bin (hF.at 0 rfl) ev_c eg_scalar (bi_int (ic_gtr (c:=true) (dec_tt hc45)) (by simp))) (wanted_by rfl rfl (hF.at 1 rfl) rfl) rfl rfl rfl fun a hF=>?_
                                   refine E.opv hF (r_pick_f (hF.at 2 rfl) (hF.at 0 rfl)) rfl rfl rfl rfl fun a hF=>?_
                                   refine E.nil ?_
                                   refine wp_cond_true (hF.at 0 rfl) ?_
                                   refine wp_seq ?_
                                   refine E.seq ?_
                                   refine E.opset (L':=[(2,.int .i64 0),(91,.bool true),(90,.bool true),(89,.int .i64 n),(88,.bool false),(87,.bool false),(86,.int .i64 n),(9,.int .i64 n),(85,.int .i64 n),(84,.int .i64 (-((-((525972500*(((30*(j+1))+d)-1))-133583340))/534333360))),(8,.int .i64 (-((-((525972500*(((30*(j+1))+d)-1))-133583340))/534333360))),(83,.int .i64 (-((-((525972500*(((30*(j+1))+d)-1))-133583340))/534333360))),(82,.int .i64 ((-((525972500*(((30*(j+1))+d)-1))-133583340))/534333360)),(81,.int .i64 (-((525972500*(((30*(j+1))+d)-1))-133583340))),(80,.int .i64 ((525972500*(((30*(j+1))+d)-1))-133583340)),(79,.int .i64 (525972500*(((30*(j+1))+d)-1))),(78,.int .i64 (((30*(j+1))+d)-1)),(7,.int .i64 (((30*(j+1))+d)-1)),(77,.int .i64 (((30*(j+1))+d)-1)),(76,.int .i64 ((30*(j+1))+d)),(75,.int .i64 d),(74,.pointer (some ⟨g1,3,none⟩)),(73,.int .i64 (30*(j+1))),(72,.int .i64 (j+1)),(5,.int .i64 (j+1)),(71,.int .i64 (j+1)),(70,.int .i64 j),(69,.bool true),(68,.bool true),(67,.int .i64 u),(66,.int .i64 (omU (j+1))),(65,.int .i64 (j+1)),(64,.int .i64 j),(63,.bool true),(62,.bool true),(61,.bool l),(60,.pointer (some ⟨g1,2,none⟩)),(55,.bool false),(54,undef),(53,undef),(52,undef),(51,undef),(50,.bool false),(49,.bool false),(48,.int .i64 k),(6,.int .i64 k),(4,.int .i64 u),(3,.int .i64 0),(1,.pointer (some ⟨g1,0,none⟩))]) hF (r_assign ev_c) rfl rfl rfl rfl fun a hF=>?_
                                   refine E.opset (L':=[(3,.int .i64 2),(2,.int .i64 0),(91,.bool true),(90,.bool true),(89,.int .i64 n),(88,.bool false),(87,.bool false),(86,.int .i64 n),(9,.int .i64 n),(85,.int .i64 n),(84,.int .i64 (-((-((525972500*(((30*(j+1))+d)-1))-133583340))/534333360))),(8,.int .i64 (-((-((525972500*(((30*(j+1))+d)-1))-133583340))/534333360))),(83,.int .i64 (-((-((525972500*(((30*(j+1))+d)-1))-133583340))/534333360))),(82,.int .i64 ((-((525972500*(((30*(j+1))+d)-1))-133583340))/534333360)),(81,.int .i64 (-((525972500*(((30*(j+1))+d)-1))-133583340))),(80,.int .i64 ((525972500*(((30*(j+1))+d)-1))-133583340)),(79,.int .i64 (525972500*(((30*(j+1))+d)-1))),(78,.int .i64 (((30*(j+1))+d)-1)),(7,.int .i64 (((30*(j+1))+d)-1)),(77,.int .i64 (((30*(j+1))+d)-1)),(76,.int .i64 ((30*(j+1))+d)),(75,.int .i64 d),(74,.pointer (some ⟨g1,3,none⟩)),(73,.int .i64 (30*(j+1))),(72,.int .i64 (j+1)),(5,.int .i64 (j+1)),(71,.int .i64 (j+1)),(70,.int .i64 j),(69,.bool true),(68,.bool true),(67,.int .i64 u),(66,.int .i64 (omU (j+1))),(65,.int .i64 (j+1)),(64,.int .i64 j),(63,.bool true),(62,.bool true),(61,.bool l),(60,.pointer (some ⟨g1,2,none⟩)),(55,.bool false),(54,undef),(53,undef),(52,undef),(51,undef),(50,.bool false),(49,.bool false),(48,.int .i64 k),(6,.int .i64 k),(4,.int .i64 u),(1,.pointer (some ⟨g1,0,none⟩))]) hF (r_assign ev_c) rfl rfl rfl rfl fun a hF=>?_
                                   refine E.nil ?_
                                   refine wp_ret ?_
                                   have bel:=st.bel
                                   refine bodyPost_ret (res_tmp2 Try.results31 (hF.at 1 rfl) (hF.at 0 rfl)) hF.dfr ?_
                                   have hfx:=om_2f hnx (by omega) (by omega) (by omega)
                                   exact⟨rv_int2 hfx.1 hfx.2,bel⟩)
                                ·first
                                 |(exfalso;omega)
                                 |(refine E.opvg hF (r_bin (hF.at 0 rfl) ev_c eg_scalar (bi_int (ic_gtr (c:=false) (dec_ff hc45)) (by simp))) (wanted_by rfl rfl (hF.at 1 rfl) rfl) rfl rfl rfl fun a hF=>?_
                                   refine E.opv hF (r_pick_f (hF.at 2 rfl) (hF.at 0 rfl)) rfl rfl rfl rfl fun a hF=>?_
                                   refine E.nil ?_
                                   refine wp_cond_false (hF.at 0 rfl) ?_
                                   refine wp_skip ?_
                                   refine E.norm ?_
                                   refine wp_seq ?_
                                   refine wp_seq ?_
                                   by_cases hc46:(omU (omJ n)/12)=y∧(omU (omJ n)%12+1)=m∧(decide (omU (omJ n+1)=omU (omJ n)))=l∧(omL n-30*omJ n+1)=d
                                   ·first
                                    |(exfalso;omega)
                                    |(refine E.drawn 4 mixed hF [92,93,94,95] [(fun _ v=>v= .int .i64 n),(fun _ v=>v= .agg #[.int .i64 (omU (omJ n)/12),.int .i64 (omU (omJ n)%12+1),.bool (decide (omU (omJ n+1)=omU (omJ n))),.int .i64 (omL n-30*omJ n+1)]),(fun _ v=>v= .agg #[.int .i64 y,.int .i64 m,.bool l,.int .i64 d]),(fun _ v=>v= .bool false)] [] (by decide+kernel) (by decide+kernel) rfl rfl rfl ⟨(Mb.eq _),(Mb.eq _),(Mb.eq _),(Mb.eq _),trivial⟩ trivial ⟨?_,?_,?_,?_,trivial⟩ ?_
                                      ·intro a' w' hF' hb hd
                                       exact dv0 (r_move (hF'.at 6 rfl)) rfl rfl rfl
                                      ·intro a' w' hF' hb hd
                                       have e92:=sHe hd 0 92 rfl rfl rfl rfl
                                       exact dcx0 (r_call Try.func28 en28.1 en28.2 (map1 e92)) (r17of_any n _ (by omega) (by omega)) (fun _=>rfl) rfl rfl
                                      ·intro a' w' hF' hb hd
                                       exact dv0 (r_load (hF'.at 48 rfl) (ld_all ty_RMD ((st.bk 0 rfl).below hb) rfl)) rfl rfl rfl
                                      ·intro a' w' hF' hb hd
                                       have e93:=sHe hd 0 93 rfl rfl rfl rfl
                                       have e94:=sHe hd 1 94 rfl rfl rfl rfl
                                       exact dv0 (r_bin e93 e94 eg_RMD (ens_RMD (dec_tt hc46))) rfl rfl rfl
                                      intro a w47 hF bb hall hne
                                      replace st:=st.to bb
                                      have e95:=sSe hall 3 95 rfl rfl
                                      clear hall hne bb
                                      replace hF:=hF.add e95
                                      clear e95
                                      refine E.nil ?_
                                      refine wp_cond_false (hF.at 0 rfl) ?_
                                      refine wp_skip ?_
                                      refine E.norm ?_
                                      refine wp_seq ?_
                                      refine E.seq ?_
                                      refine E.opv hF (r_move (hF.at 7 rfl)) rfl rfl rfl rfl fun a hF=>?_
                                      refine E.opset (L':=[(2,.int .i64 n),(96,.int .i64 n),(95,.bool false),(91,.bool false),(90,.bool false),(89,.int .i64 n),(88,.bool false),(87,.bool false),(86,.int .i64 n),(9,.int .i64 n),(85,.int .i64 n),(84,.int .i64 (-((-((525972500*(((30*(j+1))+d)-1))-133583340))/534333360))),(8,.int .i64 (-((-((525972500*(((30*(j+1))+d)-1))-133583340))/534333360))),(83,.int .i64 (-((-((525972500*(((30*(j+1))+d)-1))-133583340))/534333360))),(82,.int .i64 ((-((525972500*(((30*(j+1))+d)-1))-133583340))/534333360)),(81,.int .i64 (-((525972500*(((30*(j+1))+d)-1))-133583340))),(80,.int .i64 ((525972500*(((30*(j+1))+d)-1))-133583340)),(79,.int .i64 (525972500*(((30*(j+1))+d)-1))),(78,.int .i64 (((30*(j+1))+d)-1)),(7,.int .i64 (((30*(j+1))+d)-1)),(77,.int .i64 (((30*(j+1))+d)-1)),(76,.int .i64 ((30*(j+1))+d)),(75,.int .i64 d),(74,.pointer (some ⟨g1,3,none⟩)),(73,.int .i64 (30*(j+1))),(72,.int .i64 (j+1)),(5,.int .i64 (j+1)),(71,.int .i64 (j+1)),(70,.int .i64 j),(69,.bool true),(68,.bool true),(67,.int .i64 u),(66,.int .i64 (omU (j+1))),(65,.int .i64 (j+1)),(64,.int .i64 j),(63,.bool true),(62,.bool true),(61,.bool l),(60,.pointer (some ⟨g1,2,none⟩)),(55,.bool false),(54,undef),(53,undef),(52,undef),(51,undef),(50,.bool false),(49,.bool false),(48,.int .i64 k),(6,.int .i64 k),(4,.int .i64 u),(3,.int .i64 0),(1,.pointer (some ⟨g1,0,none⟩))]) hF (r_assign (hF.at 0 rfl)) rfl rfl rfl rfl fun a hF=>?_
                                      refine E.opset (L':=[(3,.int .i64 0),(2,.int .i64 n),(96,.int .i64 n),(95,.bool false),(91,.bool false),(90,.bool false),(89,.int .i64 n),(88,.bool false),(87,.bool false),(86,.int .i64 n),(9,.int .i64 n),(85,.int .i64 n),(84,.int .i64 (-((-((525972500*(((30*(j+1))+d)-1))-133583340))/534333360))),(8,.int .i64 (-((-((525972500*(((30*(j+1))+d)-1))-133583340))/534333360))),(83,.int .i64 (-((-((525972500*(((30*(j+1))+d)-1))-133583340))/534333360))),(82,.int .i64 ((-((525972500*(((30*(j+1))+d)-1))-133583340))/534333360)),(81,.int .i64 (-((525972500*(((30*(j+1))+d)-1))-133583340))),(80,.int .i64 ((525972500*(((30*(j+1))+d)-1))-133583340)),(79,.int .i64 (525972500*(((30*(j+1))+d)-1))),(78,.int .i64 (((30*(j+1))+d)-1)),(7,.int .i64 (((30*(j+1))+d)-1)),(77,.int .i64 (((30*(j+1))+d)-1)),(76,.int .i64 ((30*(j+1))+d)),(75,.int .i64 d),(74,.pointer (some ⟨g1,3,none⟩)),(73,.int .i64 (30*(j+1))),(72,.int .i64 (j+1)),(5,.int .i64 (j+1)),(71,.int .i64 (j+1)),(70,.int .i64 j),(69,.bool true),(68,.bool true),(67,.int .i64 u),(66,.int .i64 (omU (j+1))),(65,.int .i64 (j+1)),(64,.int .i64 j),(63,.bool true),(62,.bool true),(61,.bool l),(60,.pointer (some ⟨g1,2,none⟩)),(55,.bool false),(54,undef),(53,undef),(52,undef),(51,undef),(50,.bool false),(49,.bool false),(48,.int .i64 k),(6,.int .i64 k),(4,.int .i64 u),(1,.pointer (some ⟨g1,0,none⟩))]) hF (r_assign ev_c) rfl rfl rfl rfl fun a hF=>?_
                                      refine E.nil ?_
                                      refine wp_ret ?_
                                      have bel:=st.bel
                                      refine bodyPost_ret (res_tmp2 Try.results31 (hF.at 1 rfl) (hF.at 0 rfl)) hF.dfr ?_
                                      have hfx:=om_0 hnx (by omega) (by omega) (by omega) hc46
                                      exact⟨rv_int2 hfx.1 hfx.2,bel⟩)
                                   ·first
                                    |(exfalso;omega)
                                    |(refine E.drawn 4 mixed hF [92,93,94,95] [(fun _ v=>v= .int .i64 n),(fun _ v=>v= .agg #[.int .i64 (omU (omJ n)/12),.int .i64 (omU (omJ n)%12+1),.bool (decide (omU (omJ n+1)=omU (omJ n))),.int .i64 (omL n-30*omJ n+1)]),(fun _ v=>v= .agg #[.int .i64 y,.int .i64 m,.bool l,.int .i64 d]),(fun _ v=>v= .bool true)] [] (by decide+kernel) (by decide+kernel) rfl rfl rfl ⟨(Mb.eq _),(Mb.eq _),(Mb.eq _),(Mb.eq _),trivial⟩ trivial ⟨?_,?_,?_,?_,trivial⟩ ?_
                                      ·intro a' w' hF' hb hd
                                       exact dv0 (r_move (hF'.at 6 rfl)) rfl rfl rfl
                                      ·intro a' w' hF' hb hd
                                       have e92:=sHe hd 0 92 rfl rfl rfl rfl
                                       exact dcx0 (r_call Try.func28 en28.1 en28.2 (map1 e92)) (r17of_any n _ (by omega) (by omega)) (fun _=>rfl) rfl rfl
                                      ·intro a' w' hF' hb hd
                                       exact dv0 (r_load (hF'.at 48 rfl) (ld_all ty_RMD ((st.bk 0 rfl).below hb) rfl)) rfl rfl rfl
                                      ·intro a' w' hF' hb hd
                                       have e93:=sHe hd 0 93 rfl rfl rfl rfl
                                       have e94:=sHe hd 1 94 rfl rfl rfl rfl
                                       exact dv0 (r_bin e93 e94 eg_RMD (ens_RMD (dec_ff hc46))) rfl rfl rfl
                                      intro a w48 hF bb hall hne
                                      replace st:=st.to bb
                                      have e95:=sSe hall 3 95 rfl rfl
                                      clear hall hne bb
                                      replace hF:=hF.add e95
                                      clear e95
                                      refine E.nil ?_
                                      refine wp_cond_true (hF.at 0 rfl) ?_
                                      refine wp_seq ?_
                                      refine E.seq ?_
                                      refine E.opset (L':=[(2,.int .i64 0),(95,.bool true),(91,.bool false),(90,.bool false),(89,.int .i64 n),(88,.bool false),(87,.bool false),(86,.int .i64 n),(9,.int .i64 n),(85,.int .i64 n),(84,.int .i64 (-((-((525972500*(((30*(j+1))+d)-1))-133583340))/534333360))),(8,.int .i64 (-((-((525972500*(((30*(j+1))+d)-1))-133583340))/534333360))),(83,.int .i64 (-((-((525972500*(((30*(j+1))+d)-1))-133583340))/534333360))),(82,.int .i64 ((-((525972500*(((30*(j+1))+d)-1))-133583340))/534333360)),(81,.int .i64 (-((525972500*(((30*(j+1))+d)-1))-133583340))),(80,.int .i64 ((525972500*(((30*(j+1))+d)-1))-133583340)),(79,.int .i64 (525972500*(((30*(j+1))+d)-1))),(78,.int .i64 (((30*(j+1))+d)-1)),(7,.int .i64 (((30*(j+1))+d)-1)),(77,.int .i64 (((30*(j+1))+d)-1)),(76,.int .i64 ((30*(j+1))+d)),(75,.int .i64 d),(74,.pointer (some ⟨g1,3,none⟩)),(73,.int .i64 (30*(j+1))),(72,.int .i64 (j+1)),(5,.int .i64 (j+1)),(71,.int .i64 (j+1)),(70,.int .i64 j),(69,.bool true),(68,.bool true),(67,.int .i64 u),(66,.int .i64 (omU (j+1))),(65,.int .i64 (j+1)),(64,.int .i64 j),(63,.bool true),(62,.bool true),(61,.bool l),(60,.pointer (some ⟨g1,2,none⟩)),(55,.bool false),(54,undef),(53,undef),(52,undef),(51,undef),(50,.bool false),(49,.bool false),(48,.int .i64 k),(6,.int .i64 k),(4,.int .i64 u),(3,.int .i64 0),(1,.pointer (some ⟨g1,0,none⟩))]) hF (r_assign ev_c) rfl rfl rfl rfl fun a hF=>?_
                                      refine E.opset (L':=[(3,.int .i64 3),(2,.int .i64 0),(95,.bool true),(91,.bool false),(90,.bool false),(89,.int .i64 n),(88,.bool false),(87,.bool false),(86,.int .i64 n),(9,.int .i64 n),(85,.int .i64 n),(84,.int .i64 (-((-((525972500*(((30*(j+1))+d)-1))-133583340))/534333360))),(8,.int .i64 (-((-((525972500*(((30*(j+1))+d)-1))-133583340))/534333360))),(83,.int .i64 (-((-((525972500*(((30*(j+1))+d)-1))-133583340))/534333360))),(82,.int .i64 ((-((525972500*(((30*(j+1))+d)-1))-133583340))/534333360)),(81,.int .i64 (-((525972500*(((30*(j+1))+d)-1))-133583340))),(80,.int .i64 ((525972500*(((30*(j+1))+d)-1))-133583340)),(79,.int .i64 (525972500*(((30*(j+1))+d)-1))),(78,.int .i64 (((30*(j+1))+d)-1)),(7,.int .i64 (((30*(j+1))+d)-1)),(77,.int .i64 (((30*(j+1))+d)-1)),(76,.int .i64 ((30*(j+1))+d)),(75,.int .i64 d),(74,.pointer (some ⟨g1,3,none⟩)),(73,.int .i64 (30*(j+1))),(72,.int .i64 (j+1)),(5,.int .i64 (j+1)),(71,.int .i64 (j+1)),(70,.int .i64 j),(69,.bool true),(68,.bool true),(67,.int .i64 u),(66,.int .i64 (omU (j+1))),(65,.int .i64 (j+1)),(64,.int .i64 j),(63,.bool true),(62,.bool true),(61,.bool l),(60,.pointer (some ⟨g1,2,none⟩)),(55,.bool false),(54,undef),(53,undef),(52,undef),(51,undef),(50,.bool false),(49,.bool false),(48,.int .i64 k),(6,.int .i64 k),(4,.int .i64 u),(1,.pointer (some ⟨g1,0,none⟩))]) hF (r_assign ev_c) rfl rfl rfl rfl fun a hF=>?_
                                      refine E.nil ?_
                                      refine wp_ret ?_
                                      have bel:=st.bel
                                      refine bodyPost_ret (res_tmp2 Try.results31 (hF.at 1 rfl) (hF.at 0 rfl)) hF.dfr ?_
                                      have hfx:=om_3 hnx (by omega) (by omega) (by omega) hc46
                                      exact⟨rv_int2 hfx.1 hfx.2,bel⟩))))
                          ·first
                           |(exfalso;omega)
                           |(refine E.opvg hF (r_bin (hF.at 1 rfl) (hF.at 0 rfl) eg_scalar (bi_int (ic_eql (c:=false) (dec_ff hc42)) (by simp))) (wanted_by rfl rfl (hF.at 4 rfl) rfl) rfl rfl rfl fun a hF=>?_
                             refine E.opv hF (r_pick_t (hF.at 5 rfl) (hF.at 0 rfl)) rfl rfl rfl rfl fun a hF=>?_
                             refine E.nil ?_
                             refine wp_cond_false (hF.at 0 rfl) ?_
                             refine wp_skip ?_
                             refine E.norm ?_
                             refine wp_seq ?_
                             refine E.seq ?_
                             refine E.opv hF (r_move (hF.at 19 rfl)) rfl rfl rfl rfl fun a hF=>?_
                             refine E.opv hF (r_bin ev_c (hF.at 0 rfl) eg_scalar (ia_mul (by omega) (by omega))) rfl rfl rfl rfl fun a hF=>?_
                             refine E.opv hF (r_field (hF.at 25 rfl) (fa_RMD_3 (p:=3) rfl)) rfl rfl rfl rfl fun a hF=>?_
                             refine E.opv hF (r_load (hF.at 0 rfl) (ldb_int (v:= .int .i64 d) (st.bk 0 rfl) rfl)) rfl rfl rfl rfl fun a hF=>?_
                             refine E.opv hF (r_bin (hF.at 2 rfl) (hF.at 0 rfl) eg_scalar (ia_add (by omega) (by omega))) rfl rfl rfl rfl fun a hF=>?_
                             refine E.opv hF (r_bin (hF.at 0 rfl) ev_c eg_scalar (ia_sub (by omega) (by omega))) rfl rfl rfl rfl fun a hF=>?_
                             refine E.opv hF (r_assign (hF.at 0 rfl)) rfl rfl rfl rfl fun a hF=>?_
                             have hje:j=omA u:=by omega
                             have hjn:j=omN (12*y+(m-1)) l:=by
                              rw[show 12*y+(m-1)=u by omega,hje]
                              exact om_end (fun h=>hc42 (by rw[hje];exact h.2))
                             have hjb:=omN_bd (u:=12*y+(m-1)) (l:=l) (by omega) (by omega)
                             refine E.nil ?_
                             refine wp_seq ?_
                             refine E.seq ?_
                             refine E.opv hF (r_move (hF.at 0 rfl)) rfl rfl rfl rfl fun a hF=>?_
                             refine E.opv hF (r_bin ev_c (hF.at 0 rfl) eg_scalar (ia_mul (by omega) (by omega))) rfl rfl rfl rfl fun a hF=>?_
                             refine E.opv hF (r_bin (hF.at 0 rfl) ev_c eg_scalar (ia_sub (by omega) (by omega))) rfl rfl rfl rfl fun a hF=>?_
                             refine E.opv hF (r_un (hF.at 0 rfl) (bn_neg (by omega) (by omega))) rfl rfl rfl rfl fun a hF=>?_
                             refine S.callx st hF (r_call Try.func34 en34.1 en34.2 (map2 (hF.at 0 rfl) ev_c)) (r16fl_any (-((525972500*(((30*j)+d)-1))-133583340)) 534333360 _ (by omega) (by omega) (by omega) (by omega)) rfl rfl rfl rfl fun w49 a st hF=>?_
                             refine E.opv hF (r_un (hF.at 0 rfl) (bn_neg (by omega) (by omega))) rfl rfl rfl rfl fun a hF=>?_
                             refine E.opv hF (r_assign (hF.at 0 rfl)) rfl rfl rfl rfl fun a hF=>?_
                             refine E.nil ?_
                             refine wp_seq ?_
                             refine E.seq ?_
                             refine E.opv hF (r_move (hF.at 0 rfl)) rfl rfl rfl rfl fun a hF=>?_
                             refine E.opv hF (r_bin (hF.at 0 rfl) ev_c eg_scalar (ia_sub (by omega) (by omega))) rfl rfl rfl rfl fun a hF=>?_
                             refine E.opv hF (r_assign (hF.at 0 rfl)) rfl rfl rfl rfl fun a hF=>?_
                             obtain⟨n,hn⟩:∃n:Int,n=(-((-((525972500*(((30*j)+d)-1))-133583340))/534333360))-1132959:=⟨_,rfl⟩
                             rw[←hn] at hF
                             have hnx:n=omX y m l d:=by rw[hn,hjn,Int.add_sub_assoc];rfl
                             refine E.nil ?_
                             refine wp_seq ?_
                             refine wp_seq ?_
                             refine E.seq ?_
                             refine E.opv hF (r_move (hF.at 0 rfl)) rfl rfl rfl rfl fun a hF=>?_
                             by_cases hc50:n<(-3000000)
                             ·first
                              |(exfalso;omega)
                              |(refine E.opv hF (r_bin (hF.at 0 rfl) ev_c eg_scalar (bi_int (ic_lss (c:=true) (dec_tt hc50)) (by simp))) rfl rfl rfl rfl fun a hF=>?_
                                refine E.opv hF (r_move (hF.at 0 rfl)) rfl rfl rfl rfl fun a hF=>?_
                                refine E.unwanted hF (wanted_by rfl rfl (hF.at 0 rfl) rfl) rfl rfl rfl fun a hF=>?_
                                refine E.unwanted hF (wanted_by rfl rfl (hF.at 1 rfl) rfl) rfl rfl rfl fun a hF=>?_
                                refine E.opv hF (r_pick_t (hF.at 2 rfl) ev_c) rfl rfl rfl rfl fun a hF=>?_
                                refine E.nil ?_
                                refine wp_cond_true (hF.at 0 rfl) ?_
                                refine wp_seq ?_
                                refine E.seq ?_
                                refine E.opset (L':=[(2,.int .i64 0),(91,.bool true),(90,undef),(89,undef),(88,.bool true),(87,.bool true),(86,.int .i64 n),(9,.int .i64 n),(85,.int .i64 n),(84,.int .i64 (-((-((525972500*(((30*j)+d)-1))-133583340))/534333360))),(8,.int .i64 (-((-((525972500*(((30*j)+d)-1))-133583340))/534333360))),(83,.int .i64 (-((-((525972500*(((30*j)+d)-1))-133583340))/534333360))),(82,.int .i64 ((-((525972500*(((30*j)+d)-1))-133583340))/534333360)),(81,.int .i64 (-((525972500*(((30*j)+d)-1))-133583340))),(80,.int .i64 ((525972500*(((30*j)+d)-1))-133583340)),(79,.int .i64 (525972500*(((30*j)+d)-1))),(78,.int .i64 (((30*j)+d)-1)),(7,.int .i64 (((30*j)+d)-1)),(77,.int .i64 (((30*j)+d)-1)),(76,.int .i64 ((30*j)+d)),(75,.int .i64 d),(74,.pointer (some ⟨g1,3,none⟩)),(73,.int .i64 (30*j)),(72,.int .i64 j),(69,.bool false),(68,.bool false),(67,.int .i64 u),(66,.int .i64 (omU (j+1))),(65,.int .i64 (j+1)),(64,.int .i64 j),(63,.bool true),(62,.bool true),(61,.bool l),(60,.pointer (some ⟨g1,2,none⟩)),(55,.bool false),(54,undef),(53,undef),(52,undef),(51,undef),(50,.bool false),(49,.bool false),(48,.int .i64 k),(6,.int .i64 k),(5,.int .i64 j),(4,.int .i64 u),(3,.int .i64 0),(1,.pointer (some ⟨g1,0,none⟩))]) hF (r_assign ev_c) rfl rfl rfl rfl fun a hF=>?_
                                refine E.opset (L':=[(3,.int .i64 2),(2,.int .i64 0),(91,.bool true),(90,undef),(89,undef),(88,.bool true),(87,.bool true),(86,.int .i64 n),(9,.int .i64 n),(85,.int .i64 n),(84,.int .i64 (-((-((525972500*(((30*j)+d)-1))-133583340))/534333360))),(8,.int .i64 (-((-((525972500*(((30*j)+d)-1))-133583340))/534333360))),(83,.int .i64 (-((-((525972500*(((30*j)+d)-1))-133583340))/534333360))),(82,.int .i64 ((-((525972500*(((30*j)+d)-1))-133583340))/534333360)),(81,.int .i64 (-((525972500*(((30*j)+d)-1))-133583340))),(80,.int .i64 ((525972500*(((30*j)+d)-1))-133583340)),(79,.int .i64 (525972500*(((30*j)+d)-1))),(78,.int .i64 (((30*j)+d)-1)),(7,.int .i64 (((30*j)+d)-1)),(77,.int .i64 (((30*j)+d)-1)),(76,.int .i64 ((30*j)+d)),(75,.int .i64 d),(74,.pointer (some ⟨g1,3,none⟩)),(73,.int .i64 (30*j)),(72,.int .i64 j),(69,.bool false),(68,.bool false),(67,.int .i64 u),(66,.int .i64 (omU (j+1))),(65,.int .i64 (j+1)),(64,.int .i64 j),(63,.bool true),(62,.bool true),(61,.bool l),(60,.pointer (some ⟨g1,2,none⟩)),(55,.bool false),(54,undef),(53,undef),(52,undef),(51,undef),(50,.bool false),(49,.bool false),(48,.int .i64 k),(6,.int .i64 k),(5,.int .i64 j),(4,.int .i64 u),(1,.pointer (some ⟨g1,0,none⟩))]) hF (r_assign ev_c) rfl rfl rfl rfl fun a hF=>?_
                                refine E.nil ?_
                                refine wp_ret ?_
                                have bel:=st.bel
                                refine bodyPost_ret (res_tmp2 Try.results31 (hF.at 1 rfl) (hF.at 0 rfl)) hF.dfr ?_
                                have hfx:=om_2f hnx (by omega) (by omega) (by omega)
                                exact⟨rv_int2 hfx.1 hfx.2,bel⟩)
                             ·first
                              |(exfalso;omega)
                              |(refine E.opv hF (r_bin (hF.at 0 rfl) ev_c eg_scalar (bi_int (ic_lss (c:=false) (dec_ff hc50)) (by simp))) rfl rfl rfl rfl fun a hF=>?_
                                refine E.opv hF (r_move (hF.at 0 rfl)) rfl rfl rfl rfl fun a hF=>?_
                                refine E.opvg hF (r_move (hF.at 3 rfl)) (wanted_by rfl rfl (hF.at 0 rfl) rfl) rfl rfl rfl fun a hF=>?_
                                by_cases hc51:3000000<n
                                ·first
                                 |(exfalso;omega)
                                 |(refine E.opvg hF (r_bin (hF.at 0 rfl) ev_c eg_scalar (bi_int (ic_gtr (c:=true) (dec_tt hc51)) (by simp))) (wanted_by rfl rfl (hF.at 1 rfl) rfl) rfl rfl rfl fun a hF=>?_
                                   refine E.opv hF (r_pick_f (hF.at 2 rfl) (hF.at 0 rfl)) rfl rfl rfl rfl fun a hF=>?_
                                   refine E.nil ?_
                                   refine wp_cond_true (hF.at 0 rfl) ?_
                                   refine wp_seq ?_
                                   refine E.seq ?_
                                   refine E.opset (L':=[(2,.int .i64 0),(91,.bool true),(90,.bool true),(89,.int .i64 n),(88,.bool false),(87,.bool false),(86,.int .i64 n),(9,.int .i64 n),(85,.int .i64 n),(84,.int .i64 (-((-((525972500*(((30*j)+d)-1))-133583340))/534333360))),(8,.int .i64 (-((-((525972500*(((30*j)+d)-1))-133583340))/534333360))),(83,.int .i64 (-((-((525972500*(((30*j)+d)-1))-133583340))/534333360))),(82,.int .i64 ((-((525972500*(((30*j)+d)-1))-133583340))/534333360)),(81,.int .i64 (-((525972500*(((30*j)+d)-1))-133583340))),(80,.int .i64 ((525972500*(((30*j)+d)-1))-133583340)),(79,.int .i64 (525972500*(((30*j)+d)-1))),(78,.int .i64 (((30*j)+d)-1)),(7,.int .i64 (((30*j)+d)-1)),(77,.int .i64 (((30*j)+d)-1)),(76,.int .i64 ((30*j)+d)),(75,.int .i64 d),(74,.pointer (some ⟨g1,3,none⟩)),(73,.int .i64 (30*j)),(72,.int .i64 j),(69,.bool false),(68,.bool false),(67,.int .i64 u),(66,.int .i64 (omU (j+1))),(65,.int .i64 (j+1)),(64,.int .i64 j),(63,.bool true),(62,.bool true),(61,.bool l),(60,.pointer (some ⟨g1,2,none⟩)),(55,.bool false),(54,undef),(53,undef),(52,undef),(51,undef),(50,.bool false),(49,.bool false),(48,.int .i64 k),(6,.int .i64 k),(5,.int .i64 j),(4,.int .i64 u),(3,.int .i64 0),(1,.pointer (some ⟨g1,0,none⟩))]) hF (r_assign ev_c) rfl rfl rfl rfl fun a hF=>?_
                                   refine E.opset (L':=[(3,.int .i64 2),(2,.int .i64 0),(91,.bool true),(90,.bool true),(89,.int .i64 n),(88,.bool false),(87,.bool false),(86,.int .i64 n),(9,.int .i64 n),(85,.int .i64 n),(84,.int .i64 (-((-((525972500*(((30*j)+d)-1))-133583340))/534333360))),(8,.int .i64 (-((-((525972500*(((30*j)+d)-1))-133583340))/534333360))),(83,.int .i64 (-((-((525972500*(((30*j)+d)-1))-133583340))/534333360))),(82,.int .i64 ((-((525972500*(((30*j)+d)-1))-133583340))/534333360)),(81,.int .i64 (-((525972500*(((30*j)+d)-1))-133583340))),(80,.int .i64 ((525972500*(((30*j)+d)-1))-133583340)),(79,.int .i64 (525972500*(((30*j)+d)-1))),(78,.int .i64 (((30*j)+d)-1)),(7,.int .i64 (((30*j)+d)-1)),(77,.int .i64 (((30*j)+d)-1)),(76,.int .i64 ((30*j)+d)),(75,.int .i64 d),(74,.pointer (some ⟨g1,3,none⟩)),(73,.int .i64 (30*j)),(72,.int .i64 j),(69,.bool false),(68,.bool false),(67,.int .i64 u),(66,.int .i64 (omU (j+1))),(65,.int .i64 (j+1)),(64,.int .i64 j),(63,.bool true),(62,.bool true),(61,.bool l),(60,.pointer (some ⟨g1,2,none⟩)),(55,.bool false),(54,undef),(53,undef),(52,undef),(51,undef),(50,.bool false),(49,.bool false),(48,.int .i64 k),(6,.int .i64 k),(5,.int .i64 j),(4,.int .i64 u),(1,.pointer (some ⟨g1,0,none⟩))]) hF (r_assign ev_c) rfl rfl rfl rfl fun a hF=>?_
                                   refine E.nil ?_
                                   refine wp_ret ?_
                                   have bel:=st.bel
                                   refine bodyPost_ret (res_tmp2 Try.results31 (hF.at 1 rfl) (hF.at 0 rfl)) hF.dfr ?_
                                   have hfx:=om_2f hnx (by omega) (by omega) (by omega)
                                   exact⟨rv_int2 hfx.1 hfx.2,bel⟩)
                                ·first
                                 |(exfalso;omega)
                                 |(refine E.opvg hF (r_bin (hF.at 0 rfl) ev_c eg_scalar (bi_int (ic_gtr (c:=false) (dec_ff hc51)) (by simp))) (wanted_by rfl rfl (hF.at 1 rfl) rfl) rfl rfl rfl fun a hF=>?_
                                   refine E.opv hF (r_pick_f (hF.at 2 rfl) (hF.at 0 rfl)) rfl rfl rfl rfl fun a hF=>?_
                                   refine E.nil ?_
                                   refine wp_cond_false (hF.at 0 rfl) ?_
                                   refine wp_skip ?_
                                   refine E.norm ?_
                                   refine wp_seq ?_
                                   refine wp_seq ?_
                                   by_cases hc52:(omU (omJ n)/12)=y∧(omU (omJ n)%12+1)=m∧(decide (omU (omJ n+1)=omU (omJ n)))=l∧(omL n-30*omJ n+1)=d
                                   ·first
                                    |(exfalso;omega)
                                    |(refine E.drawn 4 mixed hF [92,93,94,95] [(fun _ v=>v= .int .i64 n),(fun _ v=>v= .agg #[.int .i64 (omU (omJ n)/12),.int .i64 (omU (omJ n)%12+1),.bool (decide (omU (omJ n+1)=omU (omJ n))),.int .i64 (omL n-30*omJ n+1)]),(fun _ v=>v= .agg #[.int .i64 y,.int .i64 m,.bool l,.int .i64 d]),(fun _ v=>v= .bool false)] [] (by decide+kernel) (by decide+kernel) rfl rfl rfl ⟨(Mb.eq _),(Mb.eq _),(Mb.eq _),(Mb.eq _),trivial⟩ trivial ⟨?_,?_,?_,?_,trivial⟩ ?_
                                      ·intro a' w' hF' hb hd
                                       exact dv0 (r_move (hF'.at 6 rfl)) rfl rfl rfl
                                      ·intro a' w' hF' hb hd
                                       have e92:=sHe hd 0 92 rfl rfl rfl rfl
                                       exact dcx0 (r_call Try.func28 en28.1 en28.2 (map1 e92)) (r17of_any n _ (by omega) (by omega)) (fun _=>rfl) rfl rfl
                                      ·intro a' w' hF' hb hd
                                       exact dv0 (r_load (hF'.at 46 rfl) (ld_all ty_RMD ((st.bk 0 rfl).below hb) rfl)) rfl rfl rfl
                                      ·intro a' w' hF' hb hd
                                       have e93:=sHe hd 0 93 rfl rfl rfl rfl
                                       have e94:=sHe hd 1 94 rfl rfl rfl rfl
                                       exact dv0 (r_bin e93 e94 eg_RMD (ens_RMD (dec_tt hc52))) rfl rfl rfl
                                      intro a w53 hF bb hall hne
                                      replace st:=st.to bb
                                      have e95:=sSe hall 3 95 rfl rfl
                                      clear hall hne bb
                                      replace hF:=hF.add e95
                                      clear e95
                                      refine E.nil ?_
                                      refine wp_cond_false (hF.at 0 rfl) ?_
                                      refine wp_skip ?_
                                      refine E.norm ?_
                                      refine wp_seq ?_
                                      refine E.seq ?_
                                      refine E.opv hF (r_move (hF.at 7 rfl)) rfl rfl rfl rfl fun a hF=>?_
                                      refine E.opset (L':=[(2,.int .i64 n),(96,.int .i64 n),(95,.bool false),(91,.bool false),(90,.bool false),(89,.int .i64 n),(88,.bool false),(87,.bool false),(86,.int .i64 n),(9,.int .i64 n),(85,.int .i64 n),(84,.int .i64 (-((-((525972500*(((30*j)+d)-1))-133583340))/534333360))),(8,.int .i64 (-((-((525972500*(((30*j)+d)-1))-133583340))/534333360))),(83,.int .i64 (-((-((525972500*(((30*j)+d)-1))-133583340))/534333360))),(82,.int .i64 ((-((525972500*(((30*j)+d)-1))-133583340))/534333360)),(81,.int .i64 (-((525972500*(((30*j)+d)-1))-133583340))),(80,.int .i64 ((525972500*(((30*j)+d)-1))-133583340)),(79,.int .i64 (525972500*(((30*j)+d)-1))),(78,.int .i64 (((30*j)+d)-1)),(7,.int .i64 (((30*j)+d)-1)),(77,.int .i64 (((30*j)+d)-1)),(76,.int .i64 ((30*j)+d)),(75,.int .i64 d),(74,.pointer (some ⟨g1,3,none⟩)),(73,.int .i64 (30*j)),(72,.int .i64 j),(69,.bool false),(68,.bool false),(67,.int .i64 u),(66,.int .i64 (omU (j+1))),(65,.int .i64 (j+1)),(64,.int .i64 j),(63,.bool true),(62,.bool true),(61,.bool l),(60,.pointer (some ⟨g1,2,none⟩)),(55,.bool false),(54,undef),(53,undef),(52,undef),(51,undef),(50,.bool false),(49,.bool false),(48,.int .i64 k),(6,.int .i64 k),(5,.int .i64 j),(4,.int .i64 u),(3,.int .i64 0),(1,.pointer (some ⟨g1,0,none⟩))]) hF (r_assign (hF.at 0 rfl)) rfl rfl rfl rfl fun a hF=>?_
                                      refine E.opset (L':=[(3,.int .i64 0),(2,.int .i64 n),(96,.int .i64 n),(95,.bool false),(91,.bool false),(90,.bool false),(89,.int .i64 n),(88,.bool false),(87,.bool false),(86,.int .i64 n),(9,.int .i64 n),(85,.int .i64 n),(84,.int .i64 (-((-((525972500*(((30*j)+d)-1))-133583340))/534333360))),(8,.int .i64 (-((-((525972500*(((30*j)+d)-1))-133583340))/534333360))),(83,.int .i64 (-((-((525972500*(((30*j)+d)-1))-133583340))/534333360))),(82,.int .i64 ((-((525972500*(((30*j)+d)-1))-133583340))/534333360)),(81,.int .i64 (-((525972500*(((30*j)+d)-1))-133583340))),(80,.int .i64 ((525972500*(((30*j)+d)-1))-133583340)),(79,.int .i64 (525972500*(((30*j)+d)-1))),(78,.int .i64 (((30*j)+d)-1)),(7,.int .i64 (((30*j)+d)-1)),(77,.int .i64 (((30*j)+d)-1)),(76,.int .i64 ((30*j)+d)),(75,.int .i64 d),(74,.pointer (some ⟨g1,3,none⟩)),(73,.int .i64 (30*j)),(72,.int .i64 j),(69,.bool false),(68,.bool false),(67,.int .i64 u),(66,.int .i64 (omU (j+1))),(65,.int .i64 (j+1)),(64,.int .i64 j),(63,.bool true),(62,.bool true),(61,.bool l),(60,.pointer (some ⟨g1,2,none⟩)),(55,.bool false),(54,undef),(53,undef),(52,undef),(51,undef),(50,.bool false),(49,.bool false),(48,.int .i64 k),(6,.int .i64 k),(5,.int .i64 j),(4,.int .i64 u),(1,.pointer (some ⟨g1,0,none⟩))]) hF (r_assign ev_c) rfl rfl rfl rfl fun a hF=>?_
                                      refine E.nil ?_
                                      refine wp_ret ?_
                                      have bel:=st.bel
                                      refine bodyPost_ret (res_tmp2 Try.results31 (hF.at 1 rfl) (hF.at 0 rfl)) hF.dfr ?_
                                      have hfx:=om_0 hnx (by omega) (by omega) (by omega) hc52
                                      exact⟨rv_int2 hfx.1 hfx.2,bel⟩)
                                   ·first
                                    |(exfalso;omega)
                                    |(refine E.drawn 4 mixed hF [92,93,94,95] [(fun _ v=>v= .int .i64 n),(fun _ v=>v= .agg #[.int .i64 (omU (omJ n)/12),.int .i64 (omU (omJ n)%12+1),.bool (decide (omU (omJ n+1)=omU (omJ n))),.int .i64 (omL n-30*omJ n+1)]),(fun _ v=>v= .agg #[.int .i64 y,.int .i64 m,.bool l,.int .i64 d]),(fun _ v=>v= .bool true)] [] (by decide+kernel) (by decide+kernel) rfl rfl rfl ⟨(Mb.eq _),(Mb.eq _),(Mb.eq _),(Mb.eq _),trivial⟩ trivial ⟨?_,?_,?_,?_,trivial⟩ ?_
                                      ·intro a' w' hF' hb hd
                                       exact dv0 (r_move (hF'.at 6 rfl)) rfl rfl rfl
                                      ·intro a' w' hF' hb hd
                                       have e92:=sHe hd 0 92 rfl rfl rfl rfl
                                       exact dcx0 (r_call Try.func28 en28.1 en28.2 (map1 e92)) (r17of_any n _ (by omega) (by omega)) (fun _=>rfl) rfl rfl
                                      ·intro a' w' hF' hb hd
                                       exact dv0 (r_load (hF'.at 46 rfl) (ld_all ty_RMD ((st.bk 0 rfl).below hb) rfl)) rfl rfl rfl
                                      ·intro a' w' hF' hb hd
                                       have e93:=sHe hd 0 93 rfl rfl rfl rfl
                                       have e94:=sHe hd 1 94 rfl rfl rfl rfl
                                       exact dv0 (r_bin e93 e94 eg_RMD (ens_RMD (dec_ff hc52))) rfl rfl rfl
                                      intro a w54 hF bb hall hne
                                      replace st:=st.to bb
                                      have e95:=sSe hall 3 95 rfl rfl
                                      clear hall hne bb
                                      replace hF:=hF.add e95
                                      clear e95
                                      refine E.nil ?_
                                      refine wp_cond_true (hF.at 0 rfl) ?_
                                      refine wp_seq ?_
                                      refine E.seq ?_
                                      refine E.opset (L':=[(2,.int .i64 0),(95,.bool true),(91,.bool false),(90,.bool false),(89,.int .i64 n),(88,.bool false),(87,.bool false),(86,.int .i64 n),(9,.int .i64 n),(85,.int .i64 n),(84,.int .i64 (-((-((525972500*(((30*j)+d)-1))-133583340))/534333360))),(8,.int .i64 (-((-((525972500*(((30*j)+d)-1))-133583340))/534333360))),(83,.int .i64 (-((-((525972500*(((30*j)+d)-1))-133583340))/534333360))),(82,.int .i64 ((-((525972500*(((30*j)+d)-1))-133583340))/534333360)),(81,.int .i64 (-((525972500*(((30*j)+d)-1))-133583340))),(80,.int .i64 ((525972500*(((30*j)+d)-1))-133583340)),(79,.int .i64 (525972500*(((30*j)+d)-1))),(78,.int .i64 (((30*j)+d)-1)),(7,.int .i64 (((30*j)+d)-1)),(77,.int .i64 (((30*j)+d)-1)),(76,.int .i64 ((30*j)+d)),(75,.int .i64 d),(74,.pointer (some ⟨g1,3,none⟩)),(73,.int .i64 (30*j)),(72,.int .i64 j),(69,.bool false),(68,.bool false),(67,.int .i64 u),(66,.int .i64 (omU (j+1))),(65,.int .i64 (j+1)),(64,.int .i64 j),(63,.bool true),(62,.bool true),(61,.bool l),(60,.pointer (some ⟨g1,2,none⟩)),(55,.bool false),(54,undef),(53,undef),(52,undef),(51,undef),(50,.bool false),(49,.bool false),(48,.int .i64 k),(6,.int .i64 k),(5,.int .i64 j),(4,.int .i64 u),(3,.int .i64 0),(1,.pointer (some ⟨g1,0,none⟩))]) hF (r_assign ev_c) rfl rfl rfl rfl fun a hF=>?_
                                      refine E.opset (L':=[(3,.int .i64 3),(2,.int .i64 0),(95,.bool true),(91,.bool false),(90,.bool false),(89,.int .i64 n),(88,.bool false),(87,.bool false),(86,.int .i64 n),(9,.int .i64 n),(85,.int .i64 n),(84,.int .i64 (-((-((525972500*(((30*j)+d)-1))-133583340))/534333360))),(8,.int .i64 (-((-((525972500*(((30*j)+d)-1))-133583340))/534333360))),(83,.int .i64 (-((-((525972500*(((30*j)+d)-1))-133583340))/534333360))),(82,.int .i64 ((-((525972500*(((30*j)+d)-1))-133583340))/534333360)),(81,.int .i64 (-((525972500*(((30*j)+d)-1))-133583340))),(80,.int .i64 ((525972500*(((30*j)+d)-1))-133583340)),(79,.int .i64 (525972500*(((30*j)+d)-1))),(78,.int .i64 (((30*j)+d)-1)),(7,.int .i64 (((30*j)+d)-1)),(77,.int .i64 (((30*j)+d)-1)),(76,.int .i64 ((30*j)+d)),(75,.int .i64 d),(74,.pointer (some ⟨g1,3,none⟩)),(73,.int .i64 (30*j)),(72,.int .i64 j),(69,.bool false),(68,.bool false),(67,.int .i64 u),(66,.int .i64 (omU (j+1))),(65,.int .i64 (j+1)),(64,.int .i64 j),(63,.bool true),(62,.bool true),(61,.bool l),(60,.pointer (some ⟨g1,2,none⟩)),(55,.bool false),(54,undef),(53,undef),(52,undef),(51,undef),(50,.bool false),(49,.bool false),(48,.int .i64 k),(6,.int .i64 k),(5,.int .i64 j),(4,.int .i64 u),(1,.pointer (some ⟨g1,0,none⟩))]) hF (r_assign ev_c) rfl rfl rfl rfl fun a hF=>?_
                                      refine E.nil ?_
                                      refine wp_ret ?_
                                      have bel:=st.bel
                                      refine bodyPost_ret (res_tmp2 Try.results31 (hF.at 1 rfl) (hF.at 0 rfl)) hF.dfr ?_
                                      have hfx:=om_3 hnx (by omega) (by omega) (by omega) hc52
                                      exact⟨rv_int2 hfx.1 hfx.2,bel⟩))))))))))))
end Go.Proofs.Ytacnedknihlfnaa
