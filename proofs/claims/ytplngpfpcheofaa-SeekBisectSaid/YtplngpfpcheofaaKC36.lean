import Derived.Test.YtplngpfpcheofaaKC30
import Derived.Test.YtplngpfpcheofaaKC34
import Derived.Test.YtplngpfpcheofaaKC35
namespace Go.Proofs.Ytplngpfpcheofaa
open Go.RowKit
set_option maxRecDepth 100000
set_option linter.unusedVariables false
set_option maxHeartbeats 8000000
theorem en6:(Try.f6.name == "runtime.NumGoroutine")=false∧Try.f6.body.isNone=false:=⟨by decide+kernel,by kernel_rfl⟩
theorem en16:(Try.f16.name == "runtime.NumGoroutine")=false∧Try.f16.body.isNone=false:=⟨by decide+kernel,by kernel_rfl⟩
def kP (c:Int):Int:=if 0≤c∧c≤4 then kN c else 0
theorem fill5 {place:Nat→Option (Nat×Nat)} {cells:Array Value} {i off:Nat} {k:IntKind} {z:Int} {rest:List (Nat×Value)} (hp:place i=some (off,1)) (hc:off+1≤cells.size):
 Instr.fill place cells ((i,.int k z)::rest)=Instr.fill place (cells.setIfInBounds off (.int k z)) rest:=by
 conv=>lhs;unfold Instr.fill
 rw[hp]
 have h1:(Value.int k z).cells =#[.int k z]:=rfl
 simp only [h1]
 rw[if_neg (by simp;omega)]
 rfl
theorem sz_A5:(Try.prog.info? 57).map (·.size)=some 5:=by kernel_rfl
theorem ze_A5:(Try.prog.info? 57).bind (·.zero)=some (.agg #[.int .i64 0,.int .i64 0,.int .i64 0,.int .i64 0,.int .i64 0]):=by kernel_rfl
theorem bd_A5_01234 (z0 z1 z2 z3 z4:Int) (w:World):(Instr.build 57 #[(0,.int .i64 z0),(1,.int .i64 z1),(2,.int .i64 z2),(3,.int .i64 z3),(4,.int .i64 z4)]).run Try.prog w= .ok (.agg #[.int .i64 z0,.int .i64 z1,.int .i64 z2,.int .i64 z3,.int .i64 z4]) w:=by
 have hz:=zero_run ze_A5 w
 have hs:∀w,(sizeOf 3).run Try.prog w= .ok 1 w:=fun w=>size_run sz_int w
 simp only [Instr.build,Sem.run_bind,hz,Result.andThen_ok,run_underlying Try.underlying57,hs]
 rw[show(Value.agg #[Value.int .i64 0,Value.int .i64 0,Value.int .i64 0,Value.int .i64 0,Value.int .i64 0]).cells =#[Value.int .i64 0,Value.int .i64 0,Value.int .i64 0,Value.int .i64 0,Value.int .i64 0] from rfl]
 rw[fill5 (off:=0) rfl (by simp),fill5 (off:=1) rfl (by simp),fill5 (off:=2) rfl (by simp),fill5 (off:=3) rfl (by simp),fill5 (off:=4) rfl (by simp)]
 simp only [List.setIfInBounds_toArray,List.set_cons_zero,List.set_cons_succ]
 rfl
theorem ix_A5 {w:World} {g:Nat} {i:Int} (h0:0≤i) (h1:i<5):(Instr.indexAt 57 (.pointer (some ⟨g,0,none⟩)) (.int .i64 i)).run Try.prog w= .ok (.pointer (some ⟨g,i.toNat,none⟩)) w:=by
 have hs:∀w,(sizeOf 3).run Try.prog w= .ok 1 w:=fun w=>size_run sz_int w
 simp[Instr.indexAt,asIntOf,Instr.sureAddr,run_underlying Try.underlying57,Sem.run_bind,h0,h1,Addr.add_mid,hs]
theorem ty_A5:Ty Try.prog 57 5 [.int .i64 0,.int .i64 0,.int .i64 0,.int .i64 0,.int .i64 0]:=⟨⟨_,Try.underlying57,rfl⟩,sz_A5,ze_A5⟩
theorem kN_ix {c:Int} (h0:0≤c) (h1:c<5):([12,30,27,27,60].map fun z=>Value.int .i64 z)[c.toNat]?=some (.int .i64 (kN c)):=by
 have h:c=0∨c=1∨c=2∨c=3∨c=4:=by omega
 rcases h with rfl|rfl|rfl|rfl|rfl <;> rfl
theorem skParts_any (c:Int) (w:World):
 Calls Try.prog 16 #[.int .i64 c] w (ValPost w (.int .i64 (kP c))):=by
 have st:=St.start w
 refine E.enter (nt:=14) (L:=[(0,.int .i64 c)]) Try.func16 rfl rfl rfl (args_cons (i:=0) rfl args_nil) ?_
 intro a hF
 refine wp_seq ?_
 refine E.seq ?_
 refine E.opv hF (r_assign ev_c) rfl rfl rfl rfl fun a hF=>?_
 refine E.nil ?_
 refine wp_seq ?_
 refine E.seq ?_
 refine E.opv hF (r_build (pair5 ev_c ev_c ev_c ev_c ev_c) (bd_A5_01234 _ _ _ _ _ _)) rfl rfl rfl rfl fun a hF=>?_
 refine S.new st hF 0 rfl ty_A5 rfl rfl rfl rfl rfl fun g3 w1 a st hF=>?_
 refine E.nil ?_
 refine wp_seq ?_
 refine wp_seq ?_
 refine E.seq ?_
 refine E.opv hF (r_move (hF.at 3 rfl)) rfl rfl rfl rfl fun a hF=>?_
 by_cases hc2:c<0
 ·first
  |(exfalso;omega)
  |(refine E.opv hF (r_bin (hF.at 0 rfl) ev_c eg_scalar (bi_int (ic_lss (c:=true) (dec_tt hc2)) (by simp))) rfl rfl rfl rfl fun a hF=>?_
    refine E.opv hF (r_move (hF.at 0 rfl)) rfl rfl rfl rfl fun a hF=>?_
    refine E.unwanted hF (wanted_by rfl rfl (hF.at 0 rfl) rfl) rfl rfl rfl fun a hF=>?_
    refine E.unwanted hF (wanted_by rfl rfl (hF.at 1 rfl) rfl) rfl rfl rfl fun a hF=>?_
    refine E.opv hF (r_pick_t (hF.at 2 rfl) ev_c) rfl rfl rfl rfl fun a hF=>?_
    refine E.nil ?_
    refine wp_cond_true (hF.at 0 rfl) ?_
    refine wp_seq ?_
    refine E.seq ?_
    refine E.opset (L':=[(2,.int .i64 0),(10,.bool true),(9,undef),(8,undef),(7,.bool true),(6,.bool true),(5,.int .i64 c),(3,.pointer (some ⟨g3,0,none⟩)),(4,.agg #[.int .i64 12,.int .i64 30,.int .i64 27,.int .i64 27,.int .i64 60]),(0,.int .i64 c)]) hF (r_assign ev_c) rfl rfl rfl rfl fun a hF=>?_
    refine E.nil ?_
    refine wp_ret ?_
    have bel:=st.bel
    refine bodyPost_ret (res_tmp Try.results16 (hF.at 0 rfl)) hF.dfr ?_
    exact⟨rv_int (by unfold kP;exact(if_neg (by omega)).symm),bel⟩)
 ·first
  |(exfalso;omega)
  |(refine E.opv hF (r_bin (hF.at 0 rfl) ev_c eg_scalar (bi_int (ic_lss (c:=false) (dec_ff hc2)) (by simp))) rfl rfl rfl rfl fun a hF=>?_
    refine E.opv hF (r_move (hF.at 0 rfl)) rfl rfl rfl rfl fun a hF=>?_
    refine E.opvg hF (r_move (hF.at 6 rfl)) (wanted_by rfl rfl (hF.at 0 rfl) rfl) rfl rfl rfl fun a hF=>?_
    by_cases hc3:5≤c
    ·first
     |(exfalso;omega)
     |(refine E.opvg hF (r_bin (hF.at 0 rfl) ev_c eg_scalar (bi_int (ic_geq (c:=true) (dec_tt hc3)) (by simp))) (wanted_by rfl rfl (hF.at 1 rfl) rfl) rfl rfl rfl fun a hF=>?_
       refine E.opv hF (r_pick_f (hF.at 2 rfl) (hF.at 0 rfl)) rfl rfl rfl rfl fun a hF=>?_
       refine E.nil ?_
       refine wp_cond_true (hF.at 0 rfl) ?_
       refine wp_seq ?_
       refine E.seq ?_
       refine E.opset (L':=[(2,.int .i64 0),(10,.bool true),(9,.bool true),(8,.int .i64 c),(7,.bool false),(6,.bool false),(5,.int .i64 c),(3,.pointer (some ⟨g3,0,none⟩)),(4,.agg #[.int .i64 12,.int .i64 30,.int .i64 27,.int .i64 27,.int .i64 60]),(0,.int .i64 c)]) hF (r_assign ev_c) rfl rfl rfl rfl fun a hF=>?_
       refine E.nil ?_
       refine wp_ret ?_
       have bel:=st.bel
       refine bodyPost_ret (res_tmp Try.results16 (hF.at 0 rfl)) hF.dfr ?_
       exact⟨rv_int (by unfold kP;exact(if_neg (by omega)).symm),bel⟩)
    ·first
     |(exfalso;omega)
     |(refine E.opvg hF (r_bin (hF.at 0 rfl) ev_c eg_scalar (bi_int (ic_geq (c:=false) (dec_ff hc3)) (by simp))) (wanted_by rfl rfl (hF.at 1 rfl) rfl) rfl rfl rfl fun a hF=>?_
       refine E.opv hF (r_pick_f (hF.at 2 rfl) (hF.at 0 rfl)) rfl rfl rfl rfl fun a hF=>?_
       refine E.nil ?_
       refine wp_cond_false (hF.at 0 rfl) ?_
       refine wp_skip ?_
       refine E.norm ?_
       refine wp_seq ?_
       refine E.seq ?_
       refine E.opv hF (r_move (hF.at 9 rfl)) rfl rfl rfl rfl fun a hF=>?_
       refine E.opv hF (r_index (hF.at 7 rfl) (hF.at 0 rfl) (ix_A5 (by omega) (by omega))) rfl rfl rfl rfl fun a hF=>?_
       refine E.opv hF (r_load (hF.at 0 rfl) (ldb_int (v:= .int .i64 (kN c)) (st.bk 0 rfl) (kN_ix (by omega) (by omega)))) rfl rfl rfl rfl fun a hF=>?_
       refine E.opset (L':=[(2,.int .i64 (kN c)),(13,.int .i64 (kN c)),(12,.pointer (some ⟨g3,(c).toNat,none⟩)),(11,.int .i64 c),(10,.bool false),(9,.bool false),(8,.int .i64 c),(7,.bool false),(6,.bool false),(5,.int .i64 c),(3,.pointer (some ⟨g3,0,none⟩)),(4,.agg #[.int .i64 12,.int .i64 30,.int .i64 27,.int .i64 27,.int .i64 60]),(0,.int .i64 c)]) hF (r_assign (hF.at 0 rfl)) rfl rfl rfl rfl fun a hF=>?_
       refine E.nil ?_
       refine wp_ret ?_
       have bel:=st.bel
       refine bodyPost_ret (res_tmp Try.results16 (hF.at 0 rfl)) hF.dfr ?_
       exact⟨rv_int (by unfold kP;exact(if_pos (by omega)).symm),bel⟩))
end Go.Proofs.Ytplngpfpcheofaa
