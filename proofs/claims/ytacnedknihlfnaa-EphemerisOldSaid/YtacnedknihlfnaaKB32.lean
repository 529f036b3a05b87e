import Derived.Test.YtacnedknihlfnaaKB22
namespace Go.Proofs.Ytacnedknihlfnaa
open Go.RowKit
set_option maxRecDepth 100000
set_option linter.unusedVariables false
set_option maxHeartbeats 8000000
theorem into_bd {k n:Int} (h:0<n):0≤k%n∧k%n<n:=⟨Int.emod_nonneg k (by omega),Int.emod_lt_of_pos k h⟩
theorem rem_bd {k n:Int} (h:0<n): -n<(if 0≤k then k%n else -(-k%n))∧(if 0≤k then k%n else -(-k%n))<n:=by
 have a:=into_bd (k:=k) h
 have b:=into_bd (k:= -k) h
 split <;> omega
def inD (n:Int):Int:=if(if 0≤n then n%6000001 else -(-n%6000001))< -3000000 then(if 0≤n then n%6000001 else -(-n%6000001))+6000000+1 else if 3000000<(if 0≤n then n%6000001 else -(-n%6000001)) then(if 0≤n then n%6000001 else -(-n%6000001))-6000000-1 else(if 0≤n then n%6000001 else -(-n%6000001))
theorem inD_bd (n:Int): -3000000≤inD n∧inD n≤3000000:=by
 unfold inD
 have:=rem_bd (k:=n) (n:=6000001) (by decide)
 generalize (if 0≤n then n%6000001 else -(-n%6000001))=r at*
 split <;> (try split) <;> omega
theorem en23:(Try.f23.name == "runtime.NumGoroutine")=false∧Try.f23.body.isNone=false:=⟨by decide+kernel,by kernel_rfl⟩
theorem inD_any (n:Int) (w:World):
 Calls Try.prog 23 #[.int .i64 n] w (ValPost w (.int .i64 (inD n))):=by
 have hrb:=rem_bd (k:=n) (n:=6000001) (by decide)
 have st:=St.start w
 refine E.enter (nt:=17) (L:=[(0,.int .i64 n)]) Try.func23 rfl rfl rfl (args_cons (i:=0) rfl args_nil) ?_
 intro a hF
 refine wp_seq ?_
 refine E.seq ?_
 refine E.opv hF (r_assign ev_c) rfl rfl rfl rfl fun a hF=>?_
 refine E.nil ?_
 refine wp_seq ?_
 refine E.seq ?_
 refine E.opv hF (r_move (hF.at 1 rfl)) rfl rfl rfl rfl fun a hF=>?_
 refine E.opv hF (r_bin (hF.at 0 rfl) ev_c eg_scalar (id_rem (a:=n) (b:=6000001) (by omega))) rfl rfl rfl rfl fun a hF=>?_
 refine E.opv hF (r_assign (hF.at 0 rfl)) rfl rfl rfl rfl fun a hF=>?_
 refine E.nil ?_
 refine wp_seq ?_
 refine wp_seq ?_
 refine E.seq ?_
 refine E.opv hF (r_move (hF.at 0 rfl)) rfl rfl rfl rfl fun a hF=>?_
 by_cases hc1:(if 0≤n then n%6000001 else -(-n%6000001))<(-3000000)
 ·refine E.opv hF (r_bin (hF.at 0 rfl) ev_c eg_scalar (bi_int (ic_lss (c:=true) (dec_tt hc1)) (by simp))) rfl rfl rfl rfl fun a hF=>?_
  refine E.nil ?_
  refine wp_cond_true (hF.at 0 rfl) ?_
  refine wp_seq ?_
  refine E.seq ?_
  refine E.opv hF (r_move (hF.at 2 rfl)) rfl rfl rfl rfl fun a hF=>?_
  refine E.opv hF (r_bin (hF.at 0 rfl) ev_c eg_scalar (ia_add (by omega) (by omega))) rfl rfl rfl rfl fun a hF=>?_
  refine E.opv hF (r_bin (hF.at 0 rfl) ev_c eg_scalar (ia_add (by omega) (by omega))) rfl rfl rfl rfl fun a hF=>?_
  refine E.opset (L':=[(2,.int .i64 (((if 0≤n then n%6000001 else -(-n%6000001))+6000000)+1)),(10,.int .i64 (((if 0≤n then n%6000001 else -(-n%6000001))+6000000)+1)),(9,.int .i64 ((if 0≤n then n%6000001 else -(-n%6000001))+6000000)),(8,.int .i64 (if 0≤n then n%6000001 else -(-n%6000001))),(7,.bool true),(6,.int .i64 (if 0≤n then n%6000001 else -(-n%6000001))),(3,.int .i64 (if 0≤n then n%6000001 else -(-n%6000001))),(5,.int .i64 (if 0≤n then n%6000001 else -(-n%6000001))),(4,.int .i64 n),(0,.int .i64 n)]) hF (r_assign (hF.at 0 rfl)) rfl rfl rfl rfl fun a hF=>?_
  refine E.nil ?_
  refine wp_ret ?_
  have bel:=st.bel
  refine bodyPost_ret (res_tmp Try.results23 (hF.at 0 rfl)) hF.dfr ?_
  refine⟨rv_int ?_,bel⟩
  unfold inD
  rw[if_pos hc1]
 ·refine E.opv hF (r_bin (hF.at 0 rfl) ev_c eg_scalar (bi_int (ic_lss (c:=false) (dec_ff hc1)) (by simp))) rfl rfl rfl rfl fun a hF=>?_
  refine E.nil ?_
  refine wp_cond_false (hF.at 0 rfl) ?_
  refine wp_skip ?_
  refine E.norm ?_
  refine wp_seq ?_
  refine wp_seq ?_
  refine E.seq ?_
  refine E.opv hF (r_move (hF.at 2 rfl)) rfl rfl rfl rfl fun a hF=>?_
  by_cases hc2:3000000<(if 0≤n then n%6000001 else -(-n%6000001))
  ·refine E.opv hF (r_bin (hF.at 0 rfl) ev_c eg_scalar (bi_int (ic_gtr (c:=true) (dec_tt hc2)) (by simp))) rfl rfl rfl rfl fun a hF=>?_
   refine E.nil ?_
   refine wp_cond_true (hF.at 0 rfl) ?_
   refine wp_seq ?_
   refine E.seq ?_
   refine E.opv hF (r_move (hF.at 4 rfl)) rfl rfl rfl rfl fun a hF=>?_
   refine E.opv hF (r_bin (hF.at 0 rfl) ev_c eg_scalar (ia_sub (by omega) (by omega))) rfl rfl rfl rfl fun a hF=>?_
   refine E.opv hF (r_bin (hF.at 0 rfl) ev_c eg_scalar (ia_sub (by omega) (by omega))) rfl rfl rfl rfl fun a hF=>?_
   refine E.opset (L':=[(2,.int .i64 (((if 0≤n then n%6000001 else -(-n%6000001))-6000000)-1)),(15,.int .i64 (((if 0≤n then n%6000001 else -(-n%6000001))-6000000)-1)),(14,.int .i64 ((if 0≤n then n%6000001 else -(-n%6000001))-6000000)),(13,.int .i64 (if 0≤n then n%6000001 else -(-n%6000001))),(12,.bool true),(11,.int .i64 (if 0≤n then n%6000001 else -(-n%6000001))),(7,.bool false),(6,.int .i64 (if 0≤n then n%6000001 else -(-n%6000001))),(3,.int .i64 (if 0≤n then n%6000001 else -(-n%6000001))),(5,.int .i64 (if 0≤n then n%6000001 else -(-n%6000001))),(4,.int .i64 n),(0,.int .i64 n)]) hF (r_assign (hF.at 0 rfl)) rfl rfl rfl rfl fun a hF=>?_
   refine E.nil ?_
   refine wp_ret ?_
   have bel:=st.bel
   refine bodyPost_ret (res_tmp Try.results23 (hF.at 0 rfl)) hF.dfr ?_
   refine⟨rv_int ?_,bel⟩
   unfold inD
   rw[if_neg hc1,if_pos hc2]
  ·refine E.opv hF (r_bin (hF.at 0 rfl) ev_c eg_scalar (bi_int (ic_gtr (c:=false) (dec_ff hc2)) (by simp))) rfl rfl rfl rfl fun a hF=>?_
   refine E.nil ?_
   refine wp_cond_false (hF.at 0 rfl) ?_
   refine wp_skip ?_
   refine E.norm ?_
   refine wp_seq ?_
   refine E.seq ?_
   refine E.opv hF (r_move (hF.at 4 rfl)) rfl rfl rfl rfl fun a hF=>?_
   refine E.opset (L':=[(2,.int .i64 (if 0≤n then n%6000001 else -(-n%6000001))),(16,.int .i64 (if 0≤n then n%6000001 else -(-n%6000001))),(12,.bool false),(11,.int .i64 (if 0≤n then n%6000001 else -(-n%6000001))),(7,.bool false),(6,.int .i64 (if 0≤n then n%6000001 else -(-n%6000001))),(3,.int .i64 (if 0≤n then n%6000001 else -(-n%6000001))),(5,.int .i64 (if 0≤n then n%6000001 else -(-n%6000001))),(4,.int .i64 n),(0,.int .i64 n)]) hF (r_assign (hF.at 0 rfl)) rfl rfl rfl rfl fun a hF=>?_
   refine E.nil ?_
   refine wp_ret ?_
   have bel:=st.bel
   refine bodyPost_ret (res_tmp Try.results23 (hF.at 0 rfl)) hF.dfr ?_
   refine⟨rv_int ?_,bel⟩
   unfold inD
   rw[if_neg hc1,if_neg hc2]
end Go.Proofs.Ytacnedknihlfnaa
