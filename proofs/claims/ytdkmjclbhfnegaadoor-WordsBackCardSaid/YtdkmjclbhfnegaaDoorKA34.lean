import Derived.Test.YtdkmjclbhfnegaaDoorKA32
import Derived.Test.YtdkmjclbhfnegaaDoorKA33
namespace Go.Proofs.YtdkmjclbhfnegaaDoor
open Go.RowKit
set_option maxRecDepth 100000
set_option linter.unusedVariables false
set_option maxHeartbeats 8000000
theorem nt3_le (i:Nat):(atL nt3 i).length ≤30:=by
 have h:(nt3.all fun xs=>decide (xs.length≤30))=true:=by decide+kernel
 by_cases q:i<nt3.length
 ·simpa using List.all_eq_true.1 h _ (atL_mem q)
 ·unfold atL;rw[List.getD_eq_getElem?_getD,List.getElem?_eq_none (by omega)];simp
theorem wHalf_any (ps ls:List Nat) (w:World) (hT:TabA w) (hp:ps.length≤1000):
 Calls Tryd.prog 16 #[.string (bstr ps),.string (bstr ls)] w (RowsP w (nt3.map (ps++ ·)++[ls])):=by
 have hN:nt3.length=14:=by decide
 have st:=St.start w
 refine E.enter (nt:=27) (L:=[(0,.string (bstr (ps))),(1,.string (bstr (ls)))]) Tryd.func16 rfl rfl rfl (args_cons (i:=0) rfl (args_cons (i:=1) rfl args_nil)) ?_
 intro a hF
 refine wp_seq ?_
 refine E.seq ?_
 refine E.opv hF (r_assign ev_c) rfl rfl rfl rfl fun a hF=>?_
 refine E.nil ?_
 refine wp_seq ?_
 refine E.seq ?_
 refine E.call hF (rgc k15 (map1 ev_c)) (wFields_lit nt3 _ (hT.below st.bel) (by kernel_rfl) (by kernel_rfl) (by kernel_rfl) (by decide+kernel) (by decide)) rfl rfl rfl rfl ?_
 rintro e w1 ⟨gr,rfl,ge,hr,bb⟩
 refine⟨_,rfl,?_⟩
 intro a hF
 have hge:w.heap.size≤gr:=by rw[←ge];exact st.bel.size
 replace hr:RowT w1 gr (hfL ps nt3 0):=by rw[hfL_0];exact hr
 replace st:=(st.to bb).grow0 (v:= .slice (some ⟨gr,0,none⟩) nt3.length nt3.length) hr (RowT.gc rfl) (RowT.gl hge) (st.gnew ge)
 clear hr bb ge
 refine E.opv hF (r_assign (hF.at 0 rfl)) rfl rfl rfl rfl fun a hF=>?_
 refine E.nil ?_
 refine wp_seq ?_
 refine wp_seq ?_
 refine E.seq ?_
 refine E.opv hF (r_move (hF.at 0 rfl)) rfl rfl rfl rfl fun a hF=>?_
 refine E.opv hF (r_builtin (map1 (hF.at 0 rfl)) bl_strs) rfl rfl rfl rfl fun a hF=>?_
 refine E.opv hF (r_move ev_c) rfl rfl rfl rfl fun a hF=>?_
 refine E.nil ?_
 refine wp_block ?_
 refine E.loop (fun mq a wv=>∃(i:Nat),i≤nt3.length∧Fr 27 a [(11,.int .i64 ((i:Nat):Int)),(10,.int .i64 (((nt3.length:Nat)):Int)),(9,.slice (some ⟨gr,0,none⟩) nt3.length nt3.length),(5,.slice (some ⟨gr,0,none⟩) nt3.length nt3.length),(4,.slice none 0 0),(0,.string (bstr (ps))),(1,.string (bstr (ls)))]∧Sg w wv [] [] (.slice (some ⟨gr,0,none⟩) nt3.length nt3.length) (fun wx=>RowT wx gr (hfL ps nt3 i))∧mq=nt3.length-i) ((nt3.length-0)) ?_ ?_
 ·exact⟨0,(Nat.zero_le _),Fr.pick (L':=[(11,.int .i64 ((0:Nat):Int)),(10,.int .i64 (((nt3.length:Nat)):Int)),(9,.slice (some ⟨gr,0,none⟩) nt3.length nt3.length),(5,.slice (some ⟨gr,0,none⟩) nt3.length nt3.length),(4,.slice none 0 0),(0,.string (bstr (ps))),(1,.string (bstr (ls)))]) hF [0,1,2,3,5,6,7] rfl,((st.pick [] [] rfl rfl (by decide)).cast rfl),rfl⟩
 ·rintro mq a w2 ⟨i,hi,hF,st,hm⟩
  by_cases hlt:i<nt3.length
  ·refine wp_seq ?_
   refine E.seq ?_
   refine E.opv hF (r_bin (hF.at 0 rfl) (hF.at 1 rfl) eg_scalar (bi_int (ic_lss (c:=true) (dec_tt (by omega))) (by simp))) rfl rfl rfl rfl fun a hF=>?_
   refine E.nil ?_
   refine wp_seq ?_
   refine wp_cond_true (hF.at 0 rfl) ?_
   refine wp_skip ?_
   refine E.norm ?_
   refine wp_seq ?_
   refine wp_block ?_
   refine wp_seq ?_
   refine E.seq ?_
   refine E.opv hF (r_move (hF.at 1 rfl)) rfl rfl rfl rfl fun a hF=>?_
   refine E.opv hF (r_index (hF.at 4 rfl) (hF.at 2 rfl) (ix_strs (i:=i) (by omega) (by omega))) rfl rfl rfl rfl fun a hF=>?_
   refine E.opv hF (r_load (hF.at 0 rfl) (ldb_str (v:= .string (bstr (atL nt3 i))) st.g.blk (strC_at0 (hfL_at _ (atL_at hlt))))) rfl rfl rfl rfl fun a hF=>?_
   refine E.opv hF (r_assign (hF.at 2 rfl)) rfl rfl rfl rfl fun a hF=>?_
   refine E.opv hF (r_assign (hF.at 1 rfl)) rfl rfl rfl rfl fun a hF=>?_
   refine E.nil ?_
   refine E.seq ?_
   refine E.opv hF (r_move (hF.at 9 rfl)) rfl rfl rfl rfl fun a hF=>?_
   refine E.opv hF (r_move (hF.at 2 rfl)) rfl rfl rfl rfl fun a hF=>?_
   refine E.opv hF (r_move (hF.at 13 rfl)) rfl rfl rfl rfl fun a hF=>?_
   refine E.opv hF (r_move (hF.at 3 rfl)) rfl rfl rfl rfl fun a hF=>?_
   refine E.opv hF (r_bin (hF.at 1 rfl) (hF.at 0 rfl) eg_str (sb_add (xs:=(ps)) (ys:=(atL nt3 i)) (by have:=nt3_le i;omega))) rfl rfl rfl rfl fun a hF=>?_
   refine E.opv hF (r_index (hF.at 4 rfl) (hF.at 3 rfl) (ix_strs (i:=i) (by omega) (by omega))) rfl rfl rfl rfl fun a hF=>?_
   obtain⟨w3,hr,gg,ku,hq⟩:=st.g.set (i:=i) (by rw[hfL_len];exact hlt) (((ps)++(atL nt3 i)))
   rw[hfL_set _ (atL_at hlt)] at hq
   refine E.st hF (r_store (hF.at 0 rfl) (hF.at 1 rfl) hr) rfl rfl fun a hF=>?_
   replace st:=st.grow (v1:= .slice (some ⟨gr,0,none⟩) nt3.length nt3.length) gg (below_own gg hge st.bel.size) ku clU0 hq (RowT.gc rfl) (RowT.gl hge) (fun b _ h=>h)
   clear hr gg ku hq
   refine E.nil0 ?_
   refine E.blk ?_
   refine E.norm ?_
   refine E.seq ?_
   refine E.opv hF (r_bin (hF.at 12 rfl) ev_c eg_scalar (ia_add (by omega) (by omega))) rfl rfl rfl rfl fun a hF=>?_
   refine E.opset (L':=[(11,.int .i64 (((i:Nat):Int)+1)),(22,.int .i64 (((i:Nat):Int)+1)),(21,.pointer (some ⟨gr,i,none⟩)),(20,.string (bstr ((ps)++(atL nt3 i)))),(19,.string (bstr (atL nt3 i))),(18,.string (bstr (ps))),(17,.int .i64 ((i:Nat):Int)),(16,.slice (some ⟨gr,0,none⟩) nt3.length nt3.length),(7,.string (bstr (atL nt3 i))),(6,.int .i64 ((i:Nat):Int)),(15,.string (bstr (atL nt3 i))),(14,.pointer (some ⟨gr,i,none⟩)),(13,.int .i64 ((i:Nat):Int)),(12,.bool true),(10,.int .i64 (((nt3.length:Nat)):Int)),(9,.slice (some ⟨gr,0,none⟩) nt3.length nt3.length),(5,.slice (some ⟨gr,0,none⟩) nt3.length nt3.length),(4,.slice none 0 0),(0,.string (bstr (ps))),(1,.string (bstr (ls)))]) hF (r_move (hF.at 0 rfl)) rfl rfl rfl rfl fun a hF=>?_
   refine E.nil0 ?_
   refine E.norm ?_
   replace hF:Fr 27 a [(11,.int .i64 ((i+1:Nat):Int)),(22,.int .i64 (((i:Nat):Int)+1)),(21,.pointer (some ⟨gr,i,none⟩)),(20,.string (bstr ((ps)++(atL nt3 i)))),(19,.string (bstr (atL nt3 i))),(18,.string (bstr (ps))),(17,.int .i64 ((i:Nat):Int)),(16,.slice (some ⟨gr,0,none⟩) nt3.length nt3.length),(7,.string (bstr (atL nt3 i))),(6,.int .i64 ((i:Nat):Int)),(15,.string (bstr (atL nt3 i))),(14,.pointer (some ⟨gr,i,none⟩)),(13,.int .i64 ((i:Nat):Int)),(12,.bool true),(10,.int .i64 (((nt3.length:Nat)):Int)),(9,.slice (some ⟨gr,0,none⟩) nt3.length nt3.length),(5,.slice (some ⟨gr,0,none⟩) nt3.length nt3.length),(4,.slice none 0 0),(0,.string (bstr (ps))),(1,.string (bstr (ls)))]:=by rw[show((i+1:Nat):Int)=((i:Nat):Int)+1 by omega];exact hF
   exact⟨(nt3.length-(i+1)),by omega,⟨(i+1),(by omega),Fr.pick (L':=[(11,.int .i64 ((i+1:Nat):Int)),(10,.int .i64 (((nt3.length:Nat)):Int)),(9,.slice (some ⟨gr,0,none⟩) nt3.length nt3.length),(5,.slice (some ⟨gr,0,none⟩) nt3.length nt3.length),(4,.slice none 0 0),(0,.string (bstr (ps))),(1,.string (bstr (ls)))]) hF [0,14,15,16,17,18,19] rfl,((st.pick [] [] rfl rfl (by decide)).cast rfl),rfl⟩⟩
  ·have hq:=st.g
   rw[hfL_end _ _ (by omega)] at hq
   replace st:=St.grow0 st.toSt (hq.acc (n:=nt3.length) hge (by rw[List.length_map];decide) (List.length_map ..)) AccU.gc AccU.gl st.gn
   clear hq
   refine wp_seq ?_
   refine E.seq ?_
   refine E.opv hF (r_bin (hF.at 0 rfl) (hF.at 1 rfl) eg_scalar (bi_int (ic_lss (c:=false) (dec_ff (by omega))) (by simp))) rfl rfl rfl rfl fun a hF=>?_
   refine E.nil ?_
   refine wp_seq ?_
   refine wp_cond_false (hF.at 0 rfl) ?_
   refine wp_exit ?_
   refine E.past ?_
   refine E.past ?_
   refine E.out (id:=0) ?_
   refine E.norm ?_
   refine wp_seq ?_
   refine E.seq ?_
   refine E.opv hF (r_move (hF.at 4 rfl)) rfl rfl rfl rfl fun a hF=>?_
   refine E.opv hF (r_move (hF.at 8 rfl)) rfl rfl rfl rfl fun a hF=>?_
   obtain⟨glu4,w5,hr,ge,bb,hbk⟩:=bsL_t w2 (bstr (ls))
   refine E.opv hF (r_buildSlice (pair1 (hF.at 0 rfl)) hr) rfl rfl rfl rfl fun a hF=>?_
   replace st:=st.new ge bb hbk
   clear hr bb hbk ge
   obtain⟨lau6,lcu6,w7,hr,hpa,gg,bb,ku,hne⟩:=putU_t st.g (st.bk 0 rfl) (by decide) st.bel.size
   refine E.opv hF (r_builtin (map2 (hF.at 2 rfl) (hF.at 0 rfl)) hr) rfl rfl rfl rfl fun a hF=>?_
   replace st:=st.grow gg bb ku clU0 hpa AccU.gc AccU.gl hne
   clear hr gg bb ku hne hpa
   refine E.opset (L':=[(4,.slice lau6 (nt3.length+1) lcu6),(26,.slice lau6 (nt3.length+1) lcu6),(25,.slice (some ⟨glu4,0,none⟩) 1 1),(24,.string (bstr (ls))),(23,.slice (some ⟨gr,0,none⟩) nt3.length nt3.length),(12,.bool false),(11,.int .i64 ((i:Nat):Int)),(10,.int .i64 (((nt3.length:Nat)):Int)),(9,.slice (some ⟨gr,0,none⟩) nt3.length nt3.length),(5,.slice (some ⟨gr,0,none⟩) nt3.length nt3.length),(0,.string (bstr (ps))),(1,.string (bstr (ls)))]) hF (r_assign (hF.at 0 rfl)) rfl rfl rfl rfl fun a hF=>?_
   refine E.nil ?_
   refine wp_ret ?_
   have bel:=st.bel
   refine bodyPost_ret (res_tmp Tryd.results16 (hF.at 0 rfl)) hF.dfr ?_
   have e2:nt3.length+1=(nt3.map (ps++ ·)++[ls]).length :=by simp
   exact⟨_,_,by rw[←e2],(by rw[←e2,strC_app];exact st.g),bel⟩
end Go.Proofs.YtdkmjclbhfnegaaDoor
