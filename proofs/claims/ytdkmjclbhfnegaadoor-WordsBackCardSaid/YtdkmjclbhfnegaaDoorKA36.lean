import Derived.Test.YtdkmjclbhfnegaaDoorKA35
namespace Go.Proofs.YtdkmjclbhfnegaaDoor
open Go.RowKit
set_option maxRecDepth 100000
set_option linter.unusedVariables false
set_option maxHeartbeats 8000000
def nmK (z:Int):List (List Nat):=if 0≤z∧z<8 then nmL z.toNat else[]
theorem nmK_in {k:Nat} (hk:k<8):nmK ((k:Nat):Int)=nmL k:=by unfold nmK;rw[if_pos (by omega)];rfl
theorem nmK_out {z:Int} (h:¬(0≤z∧z<8)):nmK z=[]:=if_neg h
theorem nmK_cases (z:Int):(∃k:Nat,k<8∧z=((k:Nat):Int)∧nmK z=nmL k)∨(¬(0≤z∧z<8)∧nmK z=[]):=by
 by_cases h:0≤z∧z<8
 ·refine .inl ⟨z.toNat,by omega,by omega,if_pos h⟩
 ·exact .inr ⟨h,if_neg h⟩
theorem nmK_few (z:Int):(nmK z).length ≤30:=by
 rcases nmK_cases z with⟨k,hk,_,e⟩|⟨_,e⟩ <;> rw[e]
 ·exact nm_few hk
 ·exact Nat.zero_le _
theorem nmK_xs (z:Int):∀xs∈nmK z,0<xs.length∧xs.length≤30∧okb 256 xs:=by
 rcases nmK_cases z with⟨k,hk,_,e⟩|⟨_,e⟩ <;> rw[e]
 ·exact nm_xs hk
 ·exact fun _ h=>by cases h
theorem nmK_nodup (z:Int):(nmK z).Nodup :=by
 rcases nmK_cases z with⟨k,hk,_,e⟩|⟨_,e⟩ <;> rw[e]
 ·exact nm_nodup hk
 ·exact List.nodup_nil
theorem tkL_new {L:List (List Nat)} (h:L.Nodup) {i:Nat} (hi:i<L.length):atL L i ∉ L.take i:=by
 intro hm
 obtain⟨j,hj,e⟩:=List.getElem_of_mem hm
 rw[List.length_take] at hj
 rw[List.getElem_take] at e
 rw[List.nodup_iff_pairwise_ne,List.pairwise_iff_getElem] at h
 have hI:atL L i=L[i]:=by have:=atL_at hi;rw[List.getElem?_eq_getElem hi] at this;injection this with this;exact this.symm
 exact h j i (by omega) hi (by omega) (e.trans hI)
theorem tkL_step {L:List (List Nat)} {i:Nat} (hi:i<L.length):L.take i++[atL L i]=L.take (i+1):=by rw[List.take_add_one,atL_at hi];rfl
def nmT (L:List (List Nat)) (y:Int):List Nat:=if 0≤y∧y<L.length then atL L y.toNat else[]
theorem wAll_in (k:Nat) (hk:k<8) (w:World) (hT:TabA w):
 Calls Tryd.prog 7 #[.int .i64 ((k:Nat):Int)] w (RowsP w (nmL k)):=by
 have st:=St.start w
 refine E.enter (nt:=12) (L:=[(0,.int .i64 ((k:Nat):Int))]) Tryd.func7 rfl rfl rfl (args_cons (i:=0) rfl args_nil) ?_
 intro a hF
 refine wp_seq ?_
 refine E.seq ?_
 refine E.opv hF (r_assign ev_c) rfl rfl rfl rfl fun a hF=>?_
 refine E.nil ?_
 refine wp_seq ?_
 refine wp_seq ?_
 refine E.seq ?_
 refine E.opv hF (r_move (hF.at 1 rfl)) rfl rfl rfl rfl fun a hF=>?_
 refine E.opv hF (r_bin (hF.at 0 rfl) ev_c eg_scalar (bi_int (ic_lss (c:=false) (dec_ff (by omega))) (by simp))) rfl rfl rfl rfl fun a hF=>?_
 refine E.opv hF (r_move (hF.at 0 rfl)) rfl rfl rfl rfl fun a hF=>?_
 refine E.opvg hF (r_move (hF.at 4 rfl)) (wanted_by rfl rfl (hF.at 0 rfl) rfl) rfl rfl rfl fun a hF=>?_
 refine E.opvg hF (r_bin (hF.at 0 rfl) ev_c eg_scalar (bi_int (ic_geq (c:=false) (dec_ff (by omega))) (by simp))) (wanted_by rfl rfl (hF.at 1 rfl) rfl) rfl rfl rfl fun a hF=>?_
 refine E.opv hF (r_pick_f (hF.at 2 rfl) (hF.at 0 rfl)) rfl rfl rfl rfl fun a hF=>?_
 refine E.nil ?_
 refine wp_cond_false (hF.at 0 rfl) ?_
 refine wp_skip ?_
 refine E.norm ?_
 refine wp_seq ?_
 refine E.seq ?_
 refine E.call hF (rgc k13 map0) (wLists_any _ (hT.below st.bel)) rfl rfl rfl rfl ?_
 rintro e w1 ⟨f,rfl,hf,bb⟩
 refine⟨_,rfl,?_⟩
 intro a hF
 replace st:=st.to bb
 clear bb
 refine E.opv hF (r_move (hF.at 8 rfl)) rfl rfl rfl rfl fun a hF=>?_
 refine E.opv hF (r_ixb (hF.at 1 rfl) (hF.at 0 rfl) (ix_S8 (k:=k) rfl hk (fun k hk=>by obtain⟨ad,cap,e,_⟩:=hf k hk;exact⟨_,_,_,e⟩))) rfl rfl rfl rfl fun a hF=>?_
 refine E.opset (L':=[(2,f k),(11,f k),(10,.int .i64 ((k:Nat):Int)),(9,.agg #[f 0,f 1,f 2,f 3,f 4,f 5,f 6,f 7]),(8,.bool false),(7,.bool false),(6,.int .i64 ((k:Nat):Int)),(5,.bool false),(4,.bool false),(3,.int .i64 ((k:Nat):Int)),(0,.int .i64 ((k:Nat):Int))]) hF (r_assign (hF.at 0 rfl)) rfl rfl rfl rfl fun a hF=>?_
 refine E.nil ?_
 refine wp_ret ?_
 have bel:=st.bel
 refine bodyPost_ret (res_tmp Tryd.results7 (hF.at 0 rfl)) hF.dfr ?_
 obtain⟨ad,cap,e,hac⟩:=hf k hk
 exact⟨ad,cap,by rw[e],by rw[←e];exact hac,bel⟩
theorem wAll_out (z:Int) (hz:¬(0≤z∧z<8)) (w:World):
 Calls Tryd.prog 7 #[.int .i64 z] w (RowsP w []):=by
 have st:=St.start w
 refine E.enter (nt:=12) (L:=[(0,.int .i64 z)]) Tryd.func7 rfl rfl rfl (args_cons (i:=0) rfl args_nil) ?_
 intro a hF
 refine wp_seq ?_
 refine E.seq ?_
 refine E.opv hF (r_assign ev_c) rfl rfl rfl rfl fun a hF=>?_
 refine E.nil ?_
 refine wp_seq ?_
 refine wp_seq ?_
 refine E.seq ?_
 refine E.opv hF (r_move (hF.at 1 rfl)) rfl rfl rfl rfl fun a hF=>?_
 by_cases hc1:z<0
 ·refine E.opv hF (r_bin (hF.at 0 rfl) ev_c eg_scalar (bi_int (ic_lss (c:=true) (dec_tt (by omega))) (by simp))) rfl rfl rfl rfl fun a hF=>?_
  refine E.opv hF (r_move (hF.at 0 rfl)) rfl rfl rfl rfl fun a hF=>?_
  refine E.unwanted hF (wanted_by rfl rfl (hF.at 0 rfl) rfl) rfl rfl rfl fun a hF=>?_
  refine E.unwanted hF (wanted_by rfl rfl (hF.at 1 rfl) rfl) rfl rfl rfl fun a hF=>?_
  refine E.opv hF (r_pick_t (hF.at 2 rfl) ev_c) rfl rfl rfl rfl fun a hF=>?_
  refine E.nil ?_
  refine wp_cond_true (hF.at 0 rfl) ?_
  refine wp_seq ?_
  refine E.seq ?_
  refine E.opset (L':=[(2,.slice none 0 0),(8,.bool true),(7,undef),(6,undef),(5,.bool true),(4,.bool true),(3,.int .i64 z),(0,.int .i64 z)]) hF (r_assign ev_c) rfl rfl rfl rfl fun a hF=>?_
  refine E.nil ?_
  refine wp_ret ?_
  have bel:=st.bel
  refine bodyPost_ret (res_tmp Tryd.results7 (hF.at 0 rfl)) hF.dfr ?_
  exact⟨none,0,rfl,AccU.nil _ _ _ _,bel⟩
 ·refine E.opv hF (r_bin (hF.at 0 rfl) ev_c eg_scalar (bi_int (ic_lss (c:=false) (dec_ff (by omega))) (by simp))) rfl rfl rfl rfl fun a hF=>?_
  refine E.opv hF (r_move (hF.at 0 rfl)) rfl rfl rfl rfl fun a hF=>?_
  refine E.opvg hF (r_move (hF.at 4 rfl)) (wanted_by rfl rfl (hF.at 0 rfl) rfl) rfl rfl rfl fun a hF=>?_
  refine E.opvg hF (r_bin (hF.at 0 rfl) ev_c eg_scalar (bi_int (ic_geq (c:=true) (dec_tt (by omega))) (by simp))) (wanted_by rfl rfl (hF.at 1 rfl) rfl) rfl rfl rfl fun a hF=>?_
  refine E.opv hF (r_pick_f (hF.at 2 rfl) (hF.at 0 rfl)) rfl rfl rfl rfl fun a hF=>?_
  refine E.nil ?_
  refine wp_cond_true (hF.at 0 rfl) ?_
  refine wp_seq ?_
  refine E.seq ?_
  refine E.opset (L':=[(2,.slice none 0 0),(8,.bool true),(7,.bool true),(6,.int .i64 z),(5,.bool false),(4,.bool false),(3,.int .i64 z),(0,.int .i64 z)]) hF (r_assign ev_c) rfl rfl rfl rfl fun a hF=>?_
  refine E.nil ?_
  refine wp_ret ?_
  have bel:=st.bel
  refine bodyPost_ret (res_tmp Tryd.results7 (hF.at 0 rfl)) hF.dfr ?_
  exact⟨none,0,rfl,AccU.nil _ _ _ _,bel⟩
theorem wAll_any (z:Int) (w:World) (hT:TabA w):Calls Tryd.prog 7 #[.int .i64 z] w (RowsP w (nmK z)):=by
 rcases nmK_cases z with⟨k,hk,e,e2⟩|⟨h,e⟩
 ·rw[e2,e];exact wAll_in k hk w hT
 ·rw[e];exact wAll_out z h w
theorem wName_in (z:Int) (L:List (List Nat)) (hA:∀w,TabA w→Calls Tryd.prog 7 #[.int .i64 z] w (RowsP w L)) (hfew:L.length≤30) (i:Nat) (hi:i<L.length) (w:World) (hT:TabA w):
 Calls Tryd.prog 9 #[.int .i64 z,.int .i64 ((i:Nat):Int)] w (ValPost w (.string (bstr (atL L i)))):=by
 have st:=St.start w
 refine E.enter (nt:=20) (L:=[(0,.int .i64 z),(1,.int .i64 ((i:Nat):Int))]) Tryd.func9 rfl rfl rfl (args_cons (i:=0) rfl (args_cons (i:=1) rfl args_nil)) ?_
 intro a hF
 refine wp_seq ?_
 refine E.seq ?_
 refine E.opv hF (r_assign ev_c) rfl rfl rfl rfl fun a hF=>?_
 refine E.nil ?_
 refine wp_seq ?_
 refine E.seq ?_
 refine E.opv hF (r_move (hF.at 1 rfl)) rfl rfl rfl rfl fun a hF=>?_
 refine E.call hF (rgc k7 (map1 (hF.at 0 rfl))) (hA _ (hT.below st.bel)) rfl rfl rfl rfl ?_
 rintro e w1 ⟨adgr,cpgr,rfl,hac,bb⟩
 refine⟨_,rfl,?_⟩
 intro a hF
 obtain⟨gr,moregr,rfl, -,hggr,hbk⟩:=hac.row (by omega)
 have s0:=st
 replace st:=(st.to bb).push hbk (Nat.le_trans s0.bel.size hggr) (s0.ne hggr)
 clear hac hbk bb s0
 refine E.opv hF (r_assign (hF.at 0 rfl)) rfl rfl rfl rfl fun a hF=>?_
 refine E.nil ?_
 refine wp_seq ?_
 refine wp_seq ?_
 refine E.seq ?_
 refine E.opv hF (r_move (hF.at 5 rfl)) rfl rfl rfl rfl fun a hF=>?_
 refine E.opv hF (r_bin (hF.at 0 rfl) ev_c eg_scalar (bi_int (ic_lss (c:=false) (dec_ff (by omega))) (by simp))) rfl rfl rfl rfl fun a hF=>?_
 refine E.opv hF (r_move (hF.at 0 rfl)) rfl rfl rfl rfl fun a hF=>?_
 refine E.opvg hF (r_move (hF.at 8 rfl)) (wanted_by rfl rfl (hF.at 0 rfl) rfl) rfl rfl rfl fun a hF=>?_
 refine E.opvg hF (r_move (hF.at 4 rfl)) (wanted_by rfl rfl (hF.at 1 rfl) rfl) rfl rfl rfl fun a hF=>?_
 refine E.opvg hF (r_builtin (map1 (hF.at 0 rfl)) bl_strs) (wanted_by rfl rfl (hF.at 2 rfl) rfl) rfl rfl rfl fun a hF=>?_
 refine E.opvg hF (r_bin (hF.at 2 rfl) (hF.at 0 rfl) eg_scalar (bi_int (ic_geq (c:=false) (dec_ff (by omega))) (by simp))) (wanted_by rfl rfl (hF.at 3 rfl) rfl) rfl rfl rfl fun a hF=>?_
 refine E.opv hF (r_pick_f (hF.at 4 rfl) (hF.at 0 rfl)) rfl rfl rfl rfl fun a hF=>?_
 refine E.nil ?_
 refine wp_cond_false (hF.at 0 rfl) ?_
 refine wp_skip ?_
 refine E.norm ?_
 refine wp_seq ?_
 refine E.seq ?_
 refine E.opv hF (r_move (hF.at 8 rfl)) rfl rfl rfl rfl fun a hF=>?_
 refine E.opv hF (r_move (hF.at 14 rfl)) rfl rfl rfl rfl fun a hF=>?_
 refine E.opv hF (r_index (hF.at 1 rfl) (hF.at 0 rfl) (ix_strs (i:=i) (by omega) (by omega))) rfl rfl rfl rfl fun a hF=>?_
 refine E.opv hF (r_load (hF.at 0 rfl) (ldb_str (v:= .string (bstr (atL L i))) (st.bk 0 rfl) (strC_at (atL_at (by omega)) _))) rfl rfl rfl rfl fun a hF=>?_
 refine E.opset (L':=[(4,.string (bstr (atL L i))),(19,.string (bstr (atL L i))),(18,.pointer (some ⟨gr,i,none⟩)),(17,.int .i64 ((i:Nat):Int)),(16,.slice (some ⟨gr,0,none⟩) L.length cpgr),(15,.bool false),(14,.bool false),(13,.int .i64 (((L.length:Nat)):Int)),(12,.slice (some ⟨gr,0,none⟩) L.length cpgr),(11,.int .i64 ((i:Nat):Int)),(10,.bool false),(9,.bool false),(8,.int .i64 ((i:Nat):Int)),(5,.slice (some ⟨gr,0,none⟩) L.length cpgr),(7,.slice (some ⟨gr,0,none⟩) L.length cpgr),(6,.int .i64 z),(0,.int .i64 z),(1,.int .i64 ((i:Nat):Int))]) hF (r_assign (hF.at 0 rfl)) rfl rfl rfl rfl fun a hF=>?_
 refine E.nil ?_
 refine wp_ret ?_
 have bel:=st.bel
 refine bodyPost_ret (res_tmp Tryd.results9 (hF.at 0 rfl)) hF.dfr ?_
 exact⟨rfl,bel⟩
theorem wName_out (z:Int) (L:List (List Nat)) (hA:∀w,TabA w→Calls Tryd.prog 7 #[.int .i64 z] w (RowsP w L)) (hfew:L.length≤30) (y:Int) (hy:¬(0≤y∧y<L.length)) (w:World) (hT:TabA w):
 Calls Tryd.prog 9 #[.int .i64 z,.int .i64 y] w (ValPost w (.string (bstr []))):=by
 have st:=St.start w
 refine E.enter (nt:=20) (L:=[(0,.int .i64 z),(1,.int .i64 y)]) Tryd.func9 rfl rfl rfl (args_cons (i:=0) rfl (args_cons (i:=1) rfl args_nil)) ?_
 intro a hF
 refine wp_seq ?_
 refine E.seq ?_
 refine E.opv hF (r_assign ev_c) rfl rfl rfl rfl fun a hF=>?_
 refine E.nil ?_
 refine wp_seq ?_
 refine E.seq ?_
 refine E.opv hF (r_move (hF.at 1 rfl)) rfl rfl rfl rfl fun a hF=>?_
 refine E.call hF (rgc k7 (map1 (hF.at 0 rfl))) (hA _ (hT.below st.bel)) rfl rfl rfl rfl ?_
 rintro e w1 ⟨adgr,cpgr,rfl,hac,bb⟩
 refine⟨_,rfl,?_⟩
 intro a hF
 replace st:=st.to bb
 clear bb hac
 refine E.opv hF (r_assign (hF.at 0 rfl)) rfl rfl rfl rfl fun a hF=>?_
 refine E.nil ?_
 refine wp_seq ?_
 refine wp_seq ?_
 refine E.seq ?_
 refine E.opv hF (r_move (hF.at 5 rfl)) rfl rfl rfl rfl fun a hF=>?_
 by_cases hc2:y<0
 ·refine E.opv hF (r_bin (hF.at 0 rfl) ev_c eg_scalar (bi_int (ic_lss (c:=true) (dec_tt (by omega))) (by simp))) rfl rfl rfl rfl fun a hF=>?_
  refine E.opv hF (r_move (hF.at 0 rfl)) rfl rfl rfl rfl fun a hF=>?_
  refine E.unwanted hF (wanted_by rfl rfl (hF.at 0 rfl) rfl) rfl rfl rfl fun a hF=>?_
  refine E.unwanted hF (wanted_by rfl rfl (hF.at 1 rfl) rfl) rfl rfl rfl fun a hF=>?_
  refine E.unwanted hF (wanted_by rfl rfl (hF.at 2 rfl) rfl) rfl rfl rfl fun a hF=>?_
  refine E.unwanted hF (wanted_by rfl rfl (hF.at 3 rfl) rfl) rfl rfl rfl fun a hF=>?_
  refine E.opv hF (r_pick_t (hF.at 4 rfl) ev_c) rfl rfl rfl rfl fun a hF=>?_
  refine E.nil ?_
  refine wp_cond_true (hF.at 0 rfl) ?_
  refine wp_seq ?_
  refine E.seq ?_
  refine E.opset (L':=[(4,.string (bstr [])),(15,.bool true),(14,undef),(13,undef),(12,undef),(11,undef),(10,.bool true),(9,.bool true),(8,.int .i64 y),(5,.slice adgr L.length cpgr),(7,.slice adgr L.length cpgr),(6,.int .i64 z),(0,.int .i64 z),(1,.int .i64 y)]) hF (r_assign ev_c) rfl rfl rfl rfl fun a hF=>?_
  refine E.nil ?_
  refine wp_ret ?_
  have bel:=st.bel
  refine bodyPost_ret (res_tmp Tryd.results9 (hF.at 0 rfl)) hF.dfr ?_
  exact⟨rfl,bel⟩
 ·refine E.opv hF (r_bin (hF.at 0 rfl) ev_c eg_scalar (bi_int (ic_lss (c:=false) (dec_ff (by omega))) (by simp))) rfl rfl rfl rfl fun a hF=>?_
  refine E.opv hF (r_move (hF.at 0 rfl)) rfl rfl rfl rfl fun a hF=>?_
  refine E.opvg hF (r_move (hF.at 8 rfl)) (wanted_by rfl rfl (hF.at 0 rfl) rfl) rfl rfl rfl fun a hF=>?_
  refine E.opvg hF (r_move (hF.at 4 rfl)) (wanted_by rfl rfl (hF.at 1 rfl) rfl) rfl rfl rfl fun a hF=>?_
  refine E.opvg hF (r_builtin (map1 (hF.at 0 rfl)) bl_strs) (wanted_by rfl rfl (hF.at 2 rfl) rfl) rfl rfl rfl fun a hF=>?_
  refine E.opvg hF (r_bin (hF.at 2 rfl) (hF.at 0 rfl) eg_scalar (bi_int (ic_geq (c:=true) (dec_tt (by omega))) (by simp))) (wanted_by rfl rfl (hF.at 3 rfl) rfl) rfl rfl rfl fun a hF=>?_
  refine E.opv hF (r_pick_f (hF.at 4 rfl) (hF.at 0 rfl)) rfl rfl rfl rfl fun a hF=>?_
  refine E.nil ?_
  refine wp_cond_true (hF.at 0 rfl) ?_
  refine wp_seq ?_
  refine E.seq ?_
  refine E.opset (L':=[(4,.string (bstr [])),(15,.bool true),(14,.bool true),(13,.int .i64 (((L.length:Nat)):Int)),(12,.slice adgr L.length cpgr),(11,.int .i64 y),(10,.bool false),(9,.bool false),(8,.int .i64 y),(5,.slice adgr L.length cpgr),(7,.slice adgr L.length cpgr),(6,.int .i64 z),(0,.int .i64 z),(1,.int .i64 y)]) hF (r_assign ev_c) rfl rfl rfl rfl fun a hF=>?_
  refine E.nil ?_
  refine wp_ret ?_
  have bel:=st.bel
  refine bodyPost_ret (res_tmp Tryd.results9 (hF.at 0 rfl)) hF.dfr ?_
  exact⟨rfl,bel⟩
theorem wName_any (z y:Int) (w:World) (hT:TabA w):Calls Tryd.prog 9 #[.int .i64 z,.int .i64 y] w (ValPost w (.string (bstr (nmT (nmK z) y)))):=by
 by_cases h:0≤y∧y<(nmK z).length
 ·have e:nmT (nmK z) y=atL (nmK z) y.toNat:=if_pos h
  obtain⟨i,rfl⟩:∃i:Nat,y=((i:Nat):Int):=⟨y.toNat,by omega⟩
  rw[e]
  exact wName_in z _ (fun w hT=>wAll_any z w hT) (nmK_few z) i (by omega) w hT
 ·have e:nmT (nmK z) y=[]:=if_neg h
  rw[e]
  exact wName_out z _ (fun w hT=>wAll_any z w hT) (nmK_few z) y h w hT
end Go.Proofs.YtdkmjclbhfnegaaDoor
