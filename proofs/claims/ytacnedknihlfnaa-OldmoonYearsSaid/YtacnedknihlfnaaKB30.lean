import Derived.Test.YtacnedknihlfnaaKB28
namespace Go.Proofs.Ytacnedknihlfnaa
open Go.RowKit
set_option maxRecDepth 100000
set_option linter.unusedVariables false
set_option maxHeartbeats 8000000
theorem en34:(Try.f34.name == "runtime.NumGoroutine")=false∧Try.f34.body.isNone=false:=⟨by decide+kernel,by kernel_rfl⟩
theorem r16fl_any (a0 b:Int) (w:World) (hb:0<b) (hb1:b≤2000000000000) (h0: -9000000000000000000≤a0) (h1:a0≤9000000000000000000):
 Calls Try.prog 34 #[.int .i64 a0,.int .i64 b] w (ValPost w (.int .i64 (a0/b))):=by
 have st:=St.start w
 refine E.enter (nt:=17) (L:=[(0,.int .i64 a0),(1,.int .i64 b)]) Try.func34 rfl rfl rfl (args_cons (i:=0) rfl (args_cons (i:=1) rfl args_nil)) ?_
 intro a hF
 refine wp_seq ?_
 refine E.seq ?_
 refine E.opv hF (r_assign ev_c) rfl rfl rfl rfl fun a hF=>?_
 refine E.nil ?_
 refine wp_seq ?_
 refine wp_seq ?_
 refine E.seq ?_
 refine E.opv hF (r_move (hF.at 1 rfl)) rfl rfl rfl rfl fun a hF=>?_
 by_cases hc1:0≤a0
 ·refine E.opv hF (r_bin (hF.at 0 rfl) ev_c eg_scalar (bi_int (ic_geq (c:=true) (dec_tt hc1)) (by simp))) rfl rfl rfl rfl fun a hF=>?_
  refine E.nil ?_
  refine wp_cond_true (hF.at 0 rfl) ?_
  refine wp_seq ?_
  refine E.seq ?_
  refine E.opv hF (r_move (hF.at 3 rfl)) rfl rfl rfl rfl fun a hF=>?_
  refine E.opv hF (r_move (hF.at 5 rfl)) rfl rfl rfl rfl fun a hF=>?_
  refine E.opv hF (r_bin (hF.at 1 rfl) (hF.at 0 rfl) eg_scalar (id_quon (a:=a0) (b:=b) hb (by omega) (by have:=r16_in hb (a:=a0) (by omega);omega) (by have:=r16_in hb (a:=a0) (by omega);omega))) rfl rfl rfl rfl fun a hF=>?_
  refine E.opset (L':=[(4,.int .i64 (a0/b)),(9,.int .i64 (a0/b)),(8,.int .i64 b),(7,.int .i64 a0),(6,.bool true),(5,.int .i64 a0),(0,.int .i64 a0),(1,.int .i64 b)]) hF (r_assign (hF.at 0 rfl)) rfl rfl rfl rfl fun a hF=>?_
  refine E.nil ?_
  refine wp_ret ?_
  have bel:=st.bel
  refine bodyPost_ret (res_tmp Try.results34 (hF.at 0 rfl)) hF.dfr ?_
  exact⟨rfl,bel⟩
 ·refine E.opv hF (r_bin (hF.at 0 rfl) ev_c eg_scalar (bi_int (ic_geq (c:=false) (dec_ff hc1)) (by simp))) rfl rfl rfl rfl fun a hF=>?_
  refine E.nil ?_
  refine wp_cond_false (hF.at 0 rfl) ?_
  refine wp_skip ?_
  refine E.norm ?_
  refine wp_seq ?_
  refine E.seq ?_
  refine E.opv hF (r_move (hF.at 4 rfl)) rfl rfl rfl rfl fun a hF=>?_
  refine E.opv hF (r_bin (hF.at 0 rfl) ev_c eg_scalar (ia_sub (by omega) (by omega))) rfl rfl rfl rfl fun a hF=>?_
  refine E.opv hF (r_move (hF.at 5 rfl)) rfl rfl rfl rfl fun a hF=>?_
  refine E.opv hF (r_bin (hF.at 1 rfl) (hF.at 0 rfl) eg_scalar (ia_sub (by omega) (by omega))) rfl rfl rfl rfl fun a hF=>?_
  refine E.opv hF (r_move (hF.at 8 rfl)) rfl rfl rfl rfl fun a hF=>?_
  refine E.opv hF (r_bin (hF.at 1 rfl) (hF.at 0 rfl) eg_scalar (id_quon (a:=(b-1)-a0) (b:=b) hb (by omega) (by have:=r16_bd hb (a:=a0) (by omega);omega) (by have:=r16_bd hb (a:=a0) (by omega);omega))) rfl rfl rfl rfl fun a hF=>?_
  refine E.opv hF (r_un (hF.at 0 rfl) (bn_neg (by have:=r16_bd hb (a:=a0) (by omega);omega) (by have:=r16_bd hb (a:=a0) (by omega);omega))) rfl rfl rfl rfl fun a hF=>?_
  refine E.opset (L':=[(4,.int .i64 (-(((b-1)-a0)/b))),(16,.int .i64 (-(((b-1)-a0)/b))),(15,.int .i64 (((b-1)-a0)/b)),(14,.int .i64 b),(13,.int .i64 ((b-1)-a0)),(12,.int .i64 a0),(11,.int .i64 (b-1)),(10,.int .i64 b),(6,.bool false),(5,.int .i64 a0),(0,.int .i64 a0),(1,.int .i64 b)]) hF (r_assign (hF.at 0 rfl)) rfl rfl rfl rfl fun a hF=>?_
  refine E.nil ?_
  refine wp_ret ?_
  have bel:=st.bel
  refine bodyPost_ret (res_tmp Try.results34 (hF.at 0 rfl)) hF.dfr ?_
  exact⟨rv_int (r16_neg hb),bel⟩
end Go.Proofs.Ytacnedknihlfnaa
