import Derived.Test.YtdkmjclbhfnegaaDoorKA36
namespace Go.Proofs.YtdkmjclbhfnegaaDoor
open Go.RowKit
set_option maxRecDepth 100000
set_option linter.unusedVariables false
set_option maxHeartbeats 8000000
theorem wFind_row (z:Int) (L:List (List Nat)) (hA:∀w,TabA w→Calls Tryd.prog 7 #[.int .i64 z] w (RowsP w L)) (hfew:L.length≤30) (hp:0<L.length) (hnd:L.Nodup) (hok:∀xs∈L,0<xs.length∧xs.length≤30∧okb 256 xs) (xs:List Nat) (hx:okb 256 xs) (hl:xs.length≤1000000) (w:World) (hT:TabA w):
 Calls Tryd.prog 11 #[.int .i64 z,.string (bstr xs)] w (ValPost w (.tuple #[.int .i64 (fdI L xs),.bool (fdB L xs)])):=by
 have st:=St.start w
 refine E.enter (nt:=32) (L:=[(0,.int .i64 z),(1,.string (bstr (xs)))]) Tryd.func11 rfl rfl rfl (args_cons (i:=0) rfl (args_cons (i:=1) rfl args_nil)) ?_
 intro a hF
 refine wp_seq ?_
 refine E.seq ?_
 refine E.opv hF (r_assign ev_c) rfl rfl rfl rfl fun a hF=>?_
 refine E.opv hF (r_assign ev_c) rfl rfl rfl rfl fun a hF=>?_
 refine E.nil ?_
 refine wp_seq ?_
 refine E.seq ?_
 obtain⟨gm,w1,ge,hr,hm,bb⟩:=mm_t w
 have hge:w.heap.size≤gm:=by rw[←ge];exact st.bel.size
 refine E.opv hF (r_makeMap hr) rfl rfl rfl rfl fun a hF=>?_
 replace st:=(st.to bb).grow0 (v:= .slice (some ⟨gm,0,none⟩) 0 0) hm (MpA.gc rfl) (MpA.gl hge) (st.gnew ge)
 clear hr hm bb ge
 refine E.opv hF (r_assign (hF.at 0 rfl)) rfl rfl rfl rfl fun a hF=>?_
 refine E.nil ?_
 refine wp_seq ?_
 refine wp_seq ?_
 refine E.seq ?_
 refine E.opv hF (r_move (hF.at 4 rfl)) rfl rfl rfl rfl fun a hF=>?_
 refine E.call hF (rgc k7 (map1 (hF.at 0 rfl))) (hA _ (hT.below st.bel)) rfl rfl rfl rfl ?_
 rintro e w2 ⟨adgr,cpgr,rfl,hac,bb⟩
 refine⟨_,rfl,?_⟩
 intro a hF
 obtain⟨gr,moregr,rfl, -,hggr,hbk⟩:=hac.row hp
 have s0:=st
 replace st:=(st.to bb).push hbk (Nat.le_trans s0.bel.size hggr) (s0.ne hggr) (s0.away hggr)
 clear hac hbk bb s0
 refine E.opv hF (r_builtin (map1 (hF.at 0 rfl)) bl_strs) rfl rfl rfl rfl fun a hF=>?_
 refine E.opv hF (r_move ev_c) rfl rfl rfl rfl fun a hF=>?_
 refine E.nil ?_
 refine wp_block ?_
 refine E.loop (fun mq a wv=>∃(i:Nat),i≤L.length∧Fr 32 a [(15,.int .i64 ((i:Nat):Int)),(14,.int .i64 (((L.length:Nat)):Int)),(13,.slice (some ⟨gr,0,none⟩) L.length cpgr),(6,.map (some gm)),(5,.bool false),(4,.int .i64 0),(1,.string (bstr (xs)))]∧Sg w wv [(gr,strC L++moregr)] [] (.slice (some ⟨gm,0,none⟩) 0 0) (fun wx=>MpA wx gm i (L.take i))∧mq=L.length-i) ((L.length-0)) ?_ ?_
 ·exact⟨0,(Nat.zero_le _),Fr.pick (L':=[(15,.int .i64 ((0:Nat):Int)),(14,.int .i64 (((L.length:Nat)):Int)),(13,.slice (some ⟨gr,0,none⟩) L.length cpgr),(6,.map (some gm)),(5,.bool false),(4,.int .i64 0),(1,.string (bstr (xs)))]) hF [0,1,2,4,6,7,9] rfl,((st.pick [0] [] rfl rfl (by decide)).cast rfl),rfl⟩
 ·rintro mq a w3 ⟨i,hi,hF,st,hm⟩
  by_cases hlt:i<L.length
  ·refine wp_seq ?_
   refine E.seq ?_
   refine E.opv hF (r_bin (hF.at 0 rfl) (hF.at 1 rfl) eg_scalar (bi_int (ic_lss (c:=true) (dec_tt (by omega))) (by simp))) rfl rfl rfl rfl fun a hF=>?_
   refine E.nil ?_
   refine wp_seq ?_
   refine wp_cond_true (hF.at 0 rfl) ?_
   refine wp_skip ?_
   refine E.norm ?_
   refine wp_seq ?_
   refine wp_block ?_
   refine wp_seq ?_
   refine E.seq ?_
   refine E.opv hF (r_move (hF.at 1 rfl)) rfl rfl rfl rfl fun a hF=>?_
   refine E.opv hF (r_index (hF.at 4 rfl) (hF.at 2 rfl) (ix_strs (i:=i) (by omega) (by omega))) rfl rfl rfl rfl fun a hF=>?_
   refine E.opv hF (r_load (hF.at 0 rfl) (ldb_str (v:= .string (bstr (atL L i))) (st.bk 0 rfl) (strC_at (atL_at (by omega)) _))) rfl rfl rfl rfl fun a hF=>?_
   refine E.opv hF (r_assign (hF.at 2 rfl)) rfl rfl rfl rfl fun a hF=>?_
   refine E.opv hF (r_assign (hF.at 1 rfl)) rfl rfl rfl rfl fun a hF=>?_
   refine E.nil ?_
   refine E.seq ?_
   refine E.opv hF (r_move (hF.at 9 rfl)) rfl rfl rfl rfl fun a hF=>?_
   refine E.opv hF (r_move (hF.at 1 rfl)) rfl rfl rfl rfl fun a hF=>?_
   refine E.opv hF (r_move (hF.at 3 rfl)) rfl rfl rfl rfl fun a hF=>?_
   obtain⟨w4,hr,hq,gg,bb,ku⟩:=MpA.put st.g (by omega) (hok _ (atL_mem hlt)).2.2 (by have:=(hok _ (atL_mem hlt)).2.1;omega) (tkL_new hnd hlt) (fun ys hy=>(hok ys (List.mem_of_mem_take hy)).2.2) hge st.bel.size (z:=((i:Nat):Int)) (by rw[List.length_take];omega) (by rw[List.length_take];omega)
   rw[tkL_step hlt] at hq
   refine E.st hF (r_mapUpdate (hF.at 2 rfl) (hF.at 1 rfl) (hF.at 0 rfl) hr) rfl rfl fun a hF=>?_
   replace st:=st.grow (v1:= .slice (some ⟨gm,0,none⟩) 0 0) gg bb ku clU0 hq (MpA.gc rfl) (MpA.gl hge) (fun b _ h=>h)
   clear hr hq gg bb ku
   refine E.nil0 ?_
   refine E.blk ?_
   refine E.norm ?_
   refine E.seq ?_
   refine E.opv hF (r_bin (hF.at 9 rfl) ev_c eg_scalar (ia_add (by omega) (by omega))) rfl rfl rfl rfl fun a hF=>?_
   refine E.opset (L':=[(15,.int .i64 (((i:Nat):Int)+1)),(23,.int .i64 (((i:Nat):Int)+1)),(22,.int .i64 ((i:Nat):Int)),(21,.string (bstr (atL L i))),(20,.map (some gm)),(8,.string (bstr (atL L i))),(7,.int .i64 ((i:Nat):Int)),(19,.string (bstr (atL L i))),(18,.pointer (some ⟨gr,i,none⟩)),(17,.int .i64 ((i:Nat):Int)),(16,.bool true),(14,.int .i64 (((L.length:Nat)):Int)),(13,.slice (some ⟨gr,0,none⟩) L.length cpgr),(6,.map (some gm)),(5,.bool false),(4,.int .i64 0),(1,.string (bstr (xs)))]) hF (r_move (hF.at 0 rfl)) rfl rfl rfl rfl fun a hF=>?_
   refine E.nil0 ?_
   refine E.norm ?_
   replace hF:Fr 32 a [(15,.int .i64 ((i+1:Nat):Int)),(23,.int .i64 (((i:Nat):Int)+1)),(22,.int .i64 ((i:Nat):Int)),(21,.string (bstr (atL L i))),(20,.map (some gm)),(8,.string (bstr (atL L i))),(7,.int .i64 ((i:Nat):Int)),(19,.string (bstr (atL L i))),(18,.pointer (some ⟨gr,i,none⟩)),(17,.int .i64 ((i:Nat):Int)),(16,.bool true),(14,.int .i64 (((L.length:Nat)):Int)),(13,.slice (some ⟨gr,0,none⟩) L.length cpgr),(6,.map (some gm)),(5,.bool false),(4,.int .i64 0),(1,.string (bstr (xs)))]:=by rw[show((i+1:Nat):Int)=((i:Nat):Int)+1 by omega];exact hF
   exact⟨(L.length-(i+1)),by omega,⟨(i+1),(by omega),Fr.pick (L':=[(15,.int .i64 ((i+1:Nat):Int)),(14,.int .i64 (((L.length:Nat)):Int)),(13,.slice (some ⟨gr,0,none⟩) L.length cpgr),(6,.map (some gm)),(5,.bool false),(4,.int .i64 0),(1,.string (bstr (xs)))]) hF [0,11,12,13,14,15,16] rfl,((st.pick [0] [] rfl rfl (by decide)).cast rfl),rfl⟩⟩
  ·replace st:=st.cast (G1:=fun wx=>MpA wx gm i L) (by rw[List.take_of_length_le (by omega)])
   refine wp_seq ?_
   refine E.seq ?_
   refine E.opv hF (r_bin (hF.at 0 rfl) (hF.at 1 rfl) eg_scalar (bi_int (ic_lss (c:=false) (dec_ff (by omega))) (by simp))) rfl rfl rfl rfl fun a hF=>?_
   refine E.nil ?_
   refine wp_seq ?_
   refine wp_cond_false (hF.at 0 rfl) ?_
   refine wp_exit ?_
   refine E.past ?_
   refine E.past ?_
   refine E.out (id:=0) ?_
   refine E.norm ?_
   refine wp_seq ?_
   refine E.seq ?_
   refine E.opv hF (r_move (hF.at 4 rfl)) rfl rfl rfl rfl fun a hF=>?_
   refine E.opv hF (r_move (hF.at 8 rfl)) rfl rfl rfl rfl fun a hF=>?_
   refine E.opv hF (r_lookup (hF.at 1 rfl) (hF.at 0 rfl) (MpA.look (L:=L) st.g hx hl)) rfl rfl rfl rfl fun a hF=>?_
   refine E.opv hF (r_move (hF.at 0 rfl)) rfl rfl rfl rfl fun a hF=>?_
   refine E.opv hF (r_extract (v:= .int .i64 (fdI L (xs))) (hF.at 0 rfl) rfl) rfl rfl rfl rfl fun a hF=>?_
   refine E.opv hF (r_extract (v:= .bool (fdB L (xs))) (hF.at 1 rfl) rfl) rfl rfl rfl rfl fun a hF=>?_
   refine E.opv hF (r_assign (hF.at 1 rfl)) rfl rfl rfl rfl fun a hF=>?_
   refine E.opv hF (r_assign (hF.at 1 rfl)) rfl rfl rfl rfl fun a hF=>?_
   refine E.nil ?_
   refine wp_seq ?_
   refine E.seq ?_
   refine E.opv hF (r_move (hF.at 1 rfl)) rfl rfl rfl rfl fun a hF=>?_
   refine E.opv hF (r_move (hF.at 1 rfl)) rfl rfl rfl rfl fun a hF=>?_
   refine E.opset (L':=[(4,.int .i64 (fdI L (xs))),(31,.bool (fdB L (xs))),(30,.int .i64 (fdI L (xs))),(10,.bool (fdB L (xs))),(9,.int .i64 (fdI L (xs))),(29,.bool (fdB L (xs))),(28,.int .i64 (fdI L (xs))),(24,.tuple #[.int .i64 (fdI L (xs)),.bool (fdB L (xs))]),(27,.tuple #[.int .i64 (fdI L (xs)),.bool (fdB L (xs))]),(26,.string (bstr (xs))),(25,.map (some gm)),(16,.bool false),(15,.int .i64 ((i:Nat):Int)),(14,.int .i64 (((L.length:Nat)):Int)),(13,.slice (some ⟨gr,0,none⟩) L.length cpgr),(6,.map (some gm)),(5,.bool false),(1,.string (bstr (xs)))]) hF (r_assign (hF.at 1 rfl)) rfl rfl rfl rfl fun a hF=>?_
   refine E.opset (L':=[(5,.bool (fdB L (xs))),(4,.int .i64 (fdI L (xs))),(31,.bool (fdB L (xs))),(30,.int .i64 (fdI L (xs))),(10,.bool (fdB L (xs))),(9,.int .i64 (fdI L (xs))),(29,.bool (fdB L (xs))),(28,.int .i64 (fdI L (xs))),(24,.tuple #[.int .i64 (fdI L (xs)),.bool (fdB L (xs))]),(27,.tuple #[.int .i64 (fdI L (xs)),.bool (fdB L (xs))]),(26,.string (bstr (xs))),(25,.map (some gm)),(16,.bool false),(15,.int .i64 ((i:Nat):Int)),(14,.int .i64 (((L.length:Nat)):Int)),(13,.slice (some ⟨gr,0,none⟩) L.length cpgr),(6,.map (some gm)),(1,.string (bstr (xs)))]) hF (r_assign (hF.at 1 rfl)) rfl rfl rfl rfl fun a hF=>?_
   refine E.nil ?_
   refine wp_ret ?_
   have bel:=st.bel
   refine bodyPost_ret (res_tmp2 Tryd.results11 (hF.at 1 rfl) (hF.at 0 rfl)) hF.dfr ?_
   exact⟨rfl,bel⟩
theorem wFind_nil (z:Int) (hA:∀w,TabA w→Calls Tryd.prog 7 #[.int .i64 z] w (RowsP w [])) (xs:List Nat) (hx:okb 256 xs) (hl:xs.length≤1000000) (w:World) (hT:TabA w):
 Calls Tryd.prog 11 #[.int .i64 z,.string (bstr xs)] w (ValPost w (.tuple #[.int .i64 (fdI [] xs),.bool (fdB [] xs)])):=by
 have h0:([]:List (List Nat)).length =0:=rfl
 have st:=St.start w
 refine E.enter (nt:=32) (L:=[(0,.int .i64 z),(1,.string (bstr (xs)))]) Tryd.func11 rfl rfl rfl (args_cons (i:=0) rfl (args_cons (i:=1) rfl args_nil)) ?_
 intro a hF
 refine wp_seq ?_
 refine E.seq ?_
 refine E.opv hF (r_assign ev_c) rfl rfl rfl rfl fun a hF=>?_
 refine E.opv hF (r_assign ev_c) rfl rfl rfl rfl fun a hF=>?_
 refine E.nil ?_
 refine wp_seq ?_
 refine E.seq ?_
 obtain⟨gm,w1,ge,hr,hm,bb⟩:=mm_t w
 have hge:w.heap.size≤gm:=by rw[←ge];exact st.bel.size
 refine E.opv hF (r_makeMap hr) rfl rfl rfl rfl fun a hF=>?_
 replace st:=(st.to bb).grow0 (v:= .slice (some ⟨gm,0,none⟩) 0 0) hm (MpA.gc rfl) (MpA.gl hge) (st.gnew ge)
 clear hr hm bb ge
 refine E.opv hF (r_assign (hF.at 0 rfl)) rfl rfl rfl rfl fun a hF=>?_
 refine E.nil ?_
 refine wp_seq ?_
 refine wp_seq ?_
 refine E.seq ?_
 refine E.opv hF (r_move (hF.at 4 rfl)) rfl rfl rfl rfl fun a hF=>?_
 refine E.call hF (rgc k7 (map1 (hF.at 0 rfl))) (hA _ (hT.below st.bel)) rfl rfl rfl rfl ?_
 rintro e w2 ⟨adgr,cpgr,rfl,hac,bb⟩
 refine⟨_,rfl,?_⟩
 intro a hF
 replace st:=st.to bb
 clear bb hac
 refine E.opv hF (r_builtin (map1 (hF.at 0 rfl)) bl_strs) rfl rfl rfl rfl fun a hF=>?_
 refine E.opv hF (r_move ev_c) rfl rfl rfl rfl fun a hF=>?_
 refine E.nil ?_
 refine wp_block ?_
 refine E.loop (fun mq a wv=>∃(i:Nat),i≤([]:List (List Nat)).length ∧Fr 32 a [(15,.int .i64 ((i:Nat):Int)),(14,.int .i64 (((([]:List (List Nat)).length :Nat)):Int)),(13,.slice adgr ([]:List (List Nat)).length cpgr),(6,.map (some gm)),(5,.bool false),(4,.int .i64 0),(1,.string (bstr (xs)))]∧Sg w wv [] [] (.slice (some ⟨gm,0,none⟩) 0 0) (fun wx=>MpA wx gm i [])∧mq=([]:List (List Nat)).length - i) ((([]:List (List Nat)).length - 0)) ?_ ?_
 ·exact⟨0,(Nat.zero_le _),Fr.pick (L':=[(15,.int .i64 ((0:Nat):Int)),(14,.int .i64 (((([]:List (List Nat)).length :Nat)):Int)),(13,.slice adgr ([]:List (List Nat)).length cpgr),(6,.map (some gm)),(5,.bool false),(4,.int .i64 0),(1,.string (bstr (xs)))]) hF [0,1,2,4,6,7,9] rfl,((st.pick [] [] rfl rfl (by decide)).cast rfl),rfl⟩
 ·rintro mq a w3 ⟨i,hi,hF,st,hm⟩
  refine wp_seq ?_
  refine E.seq ?_
  refine E.opv hF (r_bin (hF.at 0 rfl) (hF.at 1 rfl) eg_scalar (bi_int (ic_lss (c:=false) (dec_ff (by omega))) (by simp))) rfl rfl rfl rfl fun a hF=>?_
  refine E.nil ?_
  refine wp_seq ?_
  refine wp_cond_false (hF.at 0 rfl) ?_
  refine wp_exit ?_
  refine E.past ?_
  refine E.past ?_
  refine E.out (id:=0) ?_
  refine E.norm ?_
  refine wp_seq ?_
  refine E.seq ?_
  refine E.opv hF (r_move (hF.at 4 rfl)) rfl rfl rfl rfl fun a hF=>?_
  refine E.opv hF (r_move (hF.at 8 rfl)) rfl rfl rfl rfl fun a hF=>?_
  refine E.opv hF (r_lookup (hF.at 1 rfl) (hF.at 0 rfl) (MpA.look (L:=[]) st.g hx hl)) rfl rfl rfl rfl fun a hF=>?_
  refine E.opv hF (r_move (hF.at 0 rfl)) rfl rfl rfl rfl fun a hF=>?_
  refine E.opv hF (r_extract (v:= .int .i64 (fdI [] (xs))) (hF.at 0 rfl) rfl) rfl rfl rfl rfl fun a hF=>?_
  refine E.opv hF (r_extract (v:= .bool (fdB [] (xs))) (hF.at 1 rfl) rfl) rfl rfl rfl rfl fun a hF=>?_
  refine E.opv hF (r_assign (hF.at 1 rfl)) rfl rfl rfl rfl fun a hF=>?_
  refine E.opv hF (r_assign (hF.at 1 rfl)) rfl rfl rfl rfl fun a hF=>?_
  refine E.nil ?_
  refine wp_seq ?_
  refine E.seq ?_
  refine E.opv hF (r_move (hF.at 1 rfl)) rfl rfl rfl rfl fun a hF=>?_
  refine E.opv hF (r_move (hF.at 1 rfl)) rfl rfl rfl rfl fun a hF=>?_
  refine E.opset (L':=[(4,.int .i64 (fdI [] (xs))),(31,.bool (fdB [] (xs))),(30,.int .i64 (fdI [] (xs))),(10,.bool (fdB [] (xs))),(9,.int .i64 (fdI [] (xs))),(29,.bool (fdB [] (xs))),(28,.int .i64 (fdI [] (xs))),(24,.tuple #[.int .i64 (fdI [] (xs)),.bool (fdB [] (xs))]),(27,.tuple #[.int .i64 (fdI [] (xs)),.bool (fdB [] (xs))]),(26,.string (bstr (xs))),(25,.map (some gm)),(16,.bool false),(15,.int .i64 ((i:Nat):Int)),(14,.int .i64 (((([]:List (List Nat)).length :Nat)):Int)),(13,.slice adgr ([]:List (List Nat)).length cpgr),(6,.map (some gm)),(5,.bool false),(1,.string (bstr (xs)))]) hF (r_assign (hF.at 1 rfl)) rfl rfl rfl rfl fun a hF=>?_
  refine E.opset (L':=[(5,.bool (fdB [] (xs))),(4,.int .i64 (fdI [] (xs))),(31,.bool (fdB [] (xs))),(30,.int .i64 (fdI [] (xs))),(10,.bool (fdB [] (xs))),(9,.int .i64 (fdI [] (xs))),(29,.bool (fdB [] (xs))),(28,.int .i64 (fdI [] (xs))),(24,.tuple #[.int .i64 (fdI [] (xs)),.bool (fdB [] (xs))]),(27,.tuple #[.int .i64 (fdI [] (xs)),.bool (fdB [] (xs))]),(26,.string (bstr (xs))),(25,.map (some gm)),(16,.bool false),(15,.int .i64 ((i:Nat):Int)),(14,.int .i64 (((([]:List (List Nat)).length :Nat)):Int)),(13,.slice adgr ([]:List (List Nat)).length cpgr),(6,.map (some gm)),(1,.string (bstr (xs)))]) hF (r_assign (hF.at 1 rfl)) rfl rfl rfl rfl fun a hF=>?_
  refine E.nil ?_
  refine wp_ret ?_
  have bel:=st.bel
  refine bodyPost_ret (res_tmp2 Tryd.results11 (hF.at 1 rfl) (hF.at 0 rfl)) hF.dfr ?_
  exact⟨rfl,bel⟩
theorem wFind_any (z:Int) (xs:List Nat) (hx:okb 256 xs) (hl:xs.length≤1000000) (w:World) (hT:TabA w):Calls Tryd.prog 11 #[.int .i64 z,.string (bstr xs)] w (ValPost w (.tuple #[.int .i64 (fdI (nmK z) xs),.bool (fdB (nmK z) xs)])):=by
 rcases Nat.eq_zero_or_pos (nmK z).length with h|h
 ·have e:=List.eq_nil_of_length_eq_zero h
  rw[e]
  exact wFind_nil z (fun w hT=>e▸wAll_any z w hT) xs hx hl w hT
 ·exact wFind_row z _ (fun w hT=>wAll_any z w hT) (nmK_few z) h (nmK_nodup z) (nmK_xs z) xs hx hl w hT
end Go.Proofs.YtdkmjclbhfnegaaDoor
