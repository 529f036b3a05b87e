import Derived.Test.YtdkmjclbhfnegaaDoorKA40
namespace Go.Proofs.YtdkmjclbhfnegaaDoor
open Go.RowKit
set_option maxRecDepth 100000
set_option linter.unusedVariables false
set_option maxHeartbeats 8000000
theorem wordsNames_in (z:Int) (L:List (List Nat)) (hA:∀w,TabA w→Calls Tryd.prog 7 #[.int .i64 z] w (RowsP w L)) (hR:∀w,Calls Tryd.prog 8 #[.int .i64 z] w (RowsP w L)) (hfew:L.length≤30) (hp:0<L.length) (j:Nat) (hj:j<L.length) (hNi:∀w,TabA w→Calls Tryd.prog 9 #[.int .i64 z,.int .i64 ((j:Nat):Int)] w (ValPost w (.string (bstr (atL L j))))) (w:World) (hT:TabA w):
 Calls Tryd.prog 3 #[.int .i64 z,.int .i64 ((j:Nat):Int)] w (ValPost w (.bool true)):=by
 have st:=St.start w
 refine E.enter (nt:=54) (L:=[(0,.int .i64 z),(1,.int .i64 ((j:Nat):Int))]) Tryd.func3 rfl rfl rfl (args_cons (i:=0) rfl (args_cons (i:=1) rfl args_nil)) ?_
 intro a hF
 refine wp_seq ?_
 refine E.seq ?_
 refine E.opv hF (r_assign ev_c) rfl rfl rfl rfl fun a hF=>?_
 refine E.nil ?_
 refine wp_seq ?_
 refine wp_seq ?_
 refine E.seq ?_
 refine S.callx st hF (rgc k6 map0) (wAwake_any _ (hT.below st.bel)) rfl rfl rfl rfl fun w1 a st hF=>?_
 refine E.opv hF (r_un (hF.at 0 rfl) (bn_not _ false rfl)) rfl rfl rfl rfl fun a hF=>?_
 refine E.nil ?_
 refine wp_cond_false (hF.at 0 rfl) ?_
 refine wp_skip ?_
 refine E.norm ?_
 refine wp_seq ?_
 refine E.seq ?_
 refine E.opv hF (r_move (hF.at 3 rfl)) rfl rfl rfl rfl fun a hF=>?_
 refine E.call hF (rgc k7 (map1 (hF.at 0 rfl))) (hA _ (hT.below st.bel)) rfl rfl rfl rfl ?_
 rintro e w2 ⟨adgr,cpgr,rfl,hac,bb⟩
 refine⟨_,rfl,?_⟩
 intro a hF
 obtain⟨gr,moregr,rfl, -,hggr,hbk⟩:=hac.row hp
 have s0:=st
 replace st:=(st.to bb).push hbk (Nat.le_trans s0.bel.size hggr) (s0.ne hggr)
 clear hac hbk bb s0
 refine E.opv hF (r_move (hF.at 5 rfl)) rfl rfl rfl rfl fun a hF=>?_
 refine E.call hF (rgc k8 (map1 (hF.at 0 rfl))) (hR _) rfl rfl rfl rfl ?_
 rintro e w3 ⟨adgs,cpgs,rfl,hac,bb⟩
 refine⟨_,rfl,?_⟩
 intro a hF
 obtain⟨gs,moregs,rfl, -,hggs,hbk⟩:=hac.row hp
 have s0:=st
 replace st:=(st.to bb).push hbk (Nat.le_trans s0.bel.size hggs) (s0.ne hggs)
 clear hac hbk bb s0
 refine E.opv hF (r_assign (hF.at 2 rfl)) rfl rfl rfl rfl fun a hF=>?_
 refine E.opv hF (r_assign (hF.at 1 rfl)) rfl rfl rfl rfl fun a hF=>?_
 refine E.nil ?_
 refine wp_seq ?_
 refine wp_seq ?_
 refine E.seq ?_
 refine E.opv hF (r_move (hF.at 1 rfl)) rfl rfl rfl rfl fun a hF=>?_
 refine E.opv hF (r_builtin (map1 (hF.at 0 rfl)) bl_strs) rfl rfl rfl rfl fun a hF=>?_
 refine E.opv hF (r_move (hF.at 2 rfl)) rfl rfl rfl rfl fun a hF=>?_
 refine E.opv hF (r_builtin (map1 (hF.at 0 rfl)) bl_strs) rfl rfl rfl rfl fun a hF=>?_
 refine E.opv hF (r_bin (hF.at 2 rfl) (hF.at 0 rfl) eg_scalar (bi_int (ic_neq (c:=false) (dec_ff (by omega))) (by simp))) rfl rfl rfl rfl fun a hF=>?_
 refine E.nil ?_
 refine wp_cond_false (hF.at 0 rfl) ?_
 refine wp_skip ?_
 refine E.norm ?_
 refine wp_seq ?_
 refine wp_seq ?_
 refine E.seq ?_
 refine E.opv hF (r_move (hF.at 6 rfl)) rfl rfl rfl rfl fun a hF=>?_
 refine E.opv hF (r_builtin (map1 (hF.at 0 rfl)) bl_strs) rfl rfl rfl rfl fun a hF=>?_
 refine E.opv hF (r_move ev_c) rfl rfl rfl rfl fun a hF=>?_
 refine E.nil ?_
 refine wp_block ?_
 refine E.loop (fun mq a wv=>∃(i:Nat),i≤L.length∧Fr 54 a [(21,.int .i64 ((i:Nat):Int)),(20,.int .i64 (((L.length:Nat)):Int)),(6,.slice (some ⟨gs,0,none⟩) L.length cpgs),(5,.slice (some ⟨gr,0,none⟩) L.length cpgr),(0,.int .i64 z),(1,.int .i64 ((j:Nat):Int))]∧St w wv [(gs,strC L++moregs),(gr,strC L++moregr)] []∧mq=L.length-i) ((L.length-0)) ?_ ?_
 ·exact⟨0,(Nat.zero_le _),Fr.pick (L':=[(21,.int .i64 ((0:Nat):Int)),(20,.int .i64 (((L.length:Nat)):Int)),(6,.slice (some ⟨gs,0,none⟩) L.length cpgs),(5,.slice (some ⟨gr,0,none⟩) L.length cpgr),(0,.int .i64 z),(1,.int .i64 ((j:Nat):Int))]) hF [0,1,8,9,17,18] rfl,st.pick [0,1] [] rfl rfl (by decide),rfl⟩
 ·rintro mq a w4 ⟨i,hi,hF,st,hm⟩
  by_cases hlt:i<L.length
  ·refine wp_seq ?_
   refine E.seq ?_
   refine E.opv hF (r_bin (hF.at 0 rfl) (hF.at 1 rfl) eg_scalar (bi_int (ic_lss (c:=true) (dec_tt (by omega))) (by simp))) rfl rfl rfl rfl fun a hF=>?_
   refine E.nil ?_
   refine wp_seq ?_
   refine wp_cond_true (hF.at 0 rfl) ?_
   refine wp_skip ?_
   refine E.norm ?_
   refine wp_seq ?_
   refine wp_block ?_
   refine wp_seq ?_
   refine E.seq ?_
   refine E.opv hF (r_move (hF.at 1 rfl)) rfl rfl rfl rfl fun a hF=>?_
   refine E.opv hF (r_assign (hF.at 0 rfl)) rfl rfl rfl rfl fun a hF=>?_
   refine E.nil ?_
   refine wp_seq ?_
   refine E.rg 9 mixed hF [24,25,26,27,28,29,30,31,32] [_,_,.ex (.pointer (some ⟨gr,i,none⟩)),_,_,_,.ex (.pointer (some ⟨gs,i,none⟩)),_,.ex (.bool false)] (by decide+kernel) rfl rfl rfl ⟨rm 6 rfl,rm 0 rfl,(by intro a' w' hF' hb hd;have e24:=sHe hd 0 24 rfl rfl rfl rfl;have e25:=sHe hd 1 25 rfl rfl rfl rfl;exact dv0 (r_index e24 e25 (ix_strs (i:=i) (by omega) (by omega))) rfl rfl rfl),rld rfl fun _ hb=>(ldb_str (v:= .string (bstr (atL L i))) ((st.bk 1 rfl).below hb) (strC_at (atL_at (by omega)) _)),rm 5 rfl,rm 0 rfl,(by intro a' w' hF' hb hd;have e28:=sHe hd 0 28 rfl rfl rfl rfl;have e29:=sHe hd 1 29 rfl rfl rfl rfl;exact dv0 (r_index e28 e29 (ix_strs (i:=i) (by omega) (by omega))) rfl rfl rfl),rld rfl fun _ hb=>(ldb_str (v:= .string (bstr (atL L i))) ((st.bk 0 rfl).below hb) (strC_at (atL_at (by omega)) _)),(by intro a' w' hF' hb hd;have e27:=sHe hd 0 27 rfl rfl rfl rfl;have e31:=sHe hd 1 31 rfl rfl rfl rfl;exact dv0 (r_bin e27 e31 eg_str (sb_ne (xs:=(atL L i)) (ys:=(atL L i)) (by rw[sw_t rfl] <;> rfl))) rfl rfl rfl),trivial⟩ ?_
   intro a w5 hF bb hall
   replace st:=st.to bb
   replace hF:=rE hall hF 8 rfl rfl
   clear hall bb
   refine E.nil ?_
   refine wp_cond_false (hF.at 0 rfl) ?_
   refine wp_skip ?_
   refine E.blk ?_
   refine E.norm ?_
   refine E.seq ?_
   refine E.opv hF (r_bin (hF.at 4 rfl) ev_c eg_scalar (ia_add (by omega) (by omega))) rfl rfl rfl rfl fun a hF=>?_
   refine E.opset (L':=[(21,.int .i64 (((i:Nat):Int)+1)),(33,.int .i64 (((i:Nat):Int)+1)),(32,.bool false),(7,.int .i64 ((i:Nat):Int)),(23,.int .i64 ((i:Nat):Int)),(22,.bool true),(20,.int .i64 (((L.length:Nat)):Int)),(6,.slice (some ⟨gs,0,none⟩) L.length cpgs),(5,.slice (some ⟨gr,0,none⟩) L.length cpgr),(0,.int .i64 z),(1,.int .i64 ((j:Nat):Int))]) hF (r_move (hF.at 0 rfl)) rfl rfl rfl rfl fun a hF=>?_
   refine E.nil0 ?_
   refine E.norm ?_
   replace hF:Fr 54 a [(21,.int .i64 ((i+1:Nat):Int)),(33,.int .i64 (((i:Nat):Int)+1)),(32,.bool false),(7,.int .i64 ((i:Nat):Int)),(23,.int .i64 ((i:Nat):Int)),(22,.bool true),(20,.int .i64 (((L.length:Nat)):Int)),(6,.slice (some ⟨gs,0,none⟩) L.length cpgs),(5,.slice (some ⟨gr,0,none⟩) L.length cpgr),(0,.int .i64 z),(1,.int .i64 ((j:Nat):Int))]:=by rw[show((i+1:Nat):Int)=((i:Nat):Int)+1 by omega];exact hF
   exact⟨(L.length-(i+1)),by omega,⟨(i+1),(by omega),Fr.pick (L':=[(21,.int .i64 ((i+1:Nat):Int)),(20,.int .i64 (((L.length:Nat)):Int)),(6,.slice (some ⟨gs,0,none⟩) L.length cpgs),(5,.slice (some ⟨gr,0,none⟩) L.length cpgr),(0,.int .i64 z),(1,.int .i64 ((j:Nat):Int))]) hF [0,6,7,8,9,10] rfl,st.pick [0,1] [] rfl rfl (by decide),rfl⟩⟩
  ·refine wp_seq ?_
   refine E.seq ?_
   refine E.opv hF (r_bin (hF.at 0 rfl) (hF.at 1 rfl) eg_scalar (bi_int (ic_lss (c:=false) (dec_ff (by omega))) (by simp))) rfl rfl rfl rfl fun a hF=>?_
   refine E.nil ?_
   refine wp_seq ?_
   refine wp_cond_false (hF.at 0 rfl) ?_
   refine wp_exit ?_
   refine E.past ?_
   refine E.past ?_
   refine E.out (id:=0) ?_
   refine E.norm ?_
   refine wp_seq ?_
   refine wp_seq ?_
   refine E.seq ?_
   refine E.opv hF (r_move (hF.at 6 rfl)) rfl rfl rfl rfl fun a hF=>?_
   refine E.opv hF (r_bin (hF.at 0 rfl) ev_c eg_scalar (bi_int (ic_lss (c:=false) (dec_ff (by omega))) (by simp))) rfl rfl rfl rfl fun a hF=>?_
   refine E.opv hF (r_move (hF.at 0 rfl)) rfl rfl rfl rfl fun a hF=>?_
   refine E.opvg hF (r_move (hF.at 9 rfl)) (wanted_by rfl rfl (hF.at 0 rfl) rfl) rfl rfl rfl fun a hF=>?_
   refine E.opvg hF (r_move (hF.at 7 rfl)) (wanted_by rfl rfl (hF.at 1 rfl) rfl) rfl rfl rfl fun a hF=>?_
   refine E.opvg hF (r_builtin (map1 (hF.at 0 rfl)) bl_strs) (wanted_by rfl rfl (hF.at 2 rfl) rfl) rfl rfl rfl fun a hF=>?_
   refine E.opvg hF (r_bin (hF.at 2 rfl) (hF.at 0 rfl) eg_scalar (bi_int (ic_geq (c:=false) (dec_ff (by omega))) (by simp))) (wanted_by rfl rfl (hF.at 3 rfl) rfl) rfl rfl rfl fun a hF=>?_
   refine E.opv hF (r_pick_f (hF.at 4 rfl) (hF.at 0 rfl)) rfl rfl rfl rfl fun a hF=>?_
   refine E.nil ?_
   refine wp_cond_false (hF.at 0 rfl) ?_
   refine wp_skip ?_
   refine E.norm ?_
   refine wp_seq ?_
   refine E.rg 9 mixed hF [46,47,48,49,50,51,52,53,4] [_,_,_,_,_,.ex (.pointer (some ⟨gs,j,none⟩)),_,.ex (.bool true),.ex (.bool true)] (by decide+kernel) rfl rfl rfl ⟨rm 13 rfl,rm 14 rfl,ck st k9 rfl fun _ s=>ex_ret (hNi _ (hT.below s.bel)),rm 11 rfl,rm 14 rfl,(by intro a' w' hF' hb hd;have e49:=sHe hd 0 49 rfl rfl rfl rfl;have e50:=sHe hd 1 50 rfl rfl rfl rfl;exact dv0 (r_index e49 e50 (ix_strs (i:=j) (by omega) (by omega))) rfl rfl rfl),rld rfl fun _ hb=>(ldb_str (v:= .string (bstr (atL L j))) ((st.bk 0 rfl).below hb) (strC_at (atL_at (by omega)) _)),(by intro a' w' hF' hb hd;have e48:=sHe hd 0 48 rfl rfl rfl rfl;have e52:=sHe hd 1 52 rfl rfl rfl rfl;exact dv0 (r_bin e48 e52 eg_str (sb_eq (xs:=(atL L j)) (ys:=(atL L j)) (sw_t rfl))) rfl rfl rfl),(by intro a' w' hF' hb hd;have e53:=sHe hd 0 53 rfl rfl rfl rfl;exact dv0 (r_assign e53) rfl rfl rfl),trivial⟩ ?_
   intro a w6 hF bb hall
   replace st:=st.to bb
   replace hF:=rE hall hF 8 rfl rfl
   clear hall bb
   refine E.nil ?_
   refine wp_ret ?_
   have bel:=st.bel
   refine bodyPost_ret (res_tmp Tryd.results3 (hF.at 0 rfl)) hF.dfr ?_
   exact⟨rfl,bel⟩
theorem wordsNames_out (z:Int) (L:List (List Nat)) (hA:∀w,TabA w→Calls Tryd.prog 7 #[.int .i64 z] w (RowsP w L)) (hR:∀w,Calls Tryd.prog 8 #[.int .i64 z] w (RowsP w L)) (hfew:L.length≤30) (hp:0<L.length) (y:Int) (hy:¬(0≤y∧y<L.length)) (hNo:∀w,TabA w→Calls Tryd.prog 9 #[.int .i64 z,.int .i64 y] w (ValPost w (.string (bstr [])))) (w:World) (hT:TabA w):
 Calls Tryd.prog 3 #[.int .i64 z,.int .i64 y] w (ValPost w (.bool true)):=by
 have st:=St.start w
 refine E.enter (nt:=54) (L:=[(0,.int .i64 z),(1,.int .i64 y)]) Tryd.func3 rfl rfl rfl (args_cons (i:=0) rfl (args_cons (i:=1) rfl args_nil)) ?_
 intro a hF
 refine wp_seq ?_
 refine E.seq ?_
 refine E.opv hF (r_assign ev_c) rfl rfl rfl rfl fun a hF=>?_
 refine E.nil ?_
 refine wp_seq ?_
 refine wp_seq ?_
 refine E.seq ?_
 refine S.callx st hF (rgc k6 map0) (wAwake_any _ (hT.below st.bel)) rfl rfl rfl rfl fun w1 a st hF=>?_
 refine E.opv hF (r_un (hF.at 0 rfl) (bn_not _ false rfl)) rfl rfl rfl rfl fun a hF=>?_
 refine E.nil ?_
 refine wp_cond_false (hF.at 0 rfl) ?_
 refine wp_skip ?_
 refine E.norm ?_
 refine wp_seq ?_
 refine E.seq ?_
 refine E.opv hF (r_move (hF.at 3 rfl)) rfl rfl rfl rfl fun a hF=>?_
 refine E.call hF (rgc k7 (map1 (hF.at 0 rfl))) (hA _ (hT.below st.bel)) rfl rfl rfl rfl ?_
 rintro e w2 ⟨adgr,cpgr,rfl,hac,bb⟩
 refine⟨_,rfl,?_⟩
 intro a hF
 obtain⟨gr,moregr,rfl, -,hggr,hbk⟩:=hac.row hp
 have s0:=st
 replace st:=(st.to bb).push hbk (Nat.le_trans s0.bel.size hggr) (s0.ne hggr)
 clear hac hbk bb s0
 refine E.opv hF (r_move (hF.at 5 rfl)) rfl rfl rfl rfl fun a hF=>?_
 refine E.call hF (rgc k8 (map1 (hF.at 0 rfl))) (hR _) rfl rfl rfl rfl ?_
 rintro e w3 ⟨adgs,cpgs,rfl,hac,bb⟩
 refine⟨_,rfl,?_⟩
 intro a hF
 obtain⟨gs,moregs,rfl, -,hggs,hbk⟩:=hac.row hp
 have s0:=st
 replace st:=(st.to bb).push hbk (Nat.le_trans s0.bel.size hggs) (s0.ne hggs)
 clear hac hbk bb s0
 refine E.opv hF (r_assign (hF.at 2 rfl)) rfl rfl rfl rfl fun a hF=>?_
 refine E.opv hF (r_assign (hF.at 1 rfl)) rfl rfl rfl rfl fun a hF=>?_
 refine E.nil ?_
 refine wp_seq ?_
 refine wp_seq ?_
 refine E.seq ?_
 refine E.opv hF (r_move (hF.at 1 rfl)) rfl rfl rfl rfl fun a hF=>?_
 refine E.opv hF (r_builtin (map1 (hF.at 0 rfl)) bl_strs) rfl rfl rfl rfl fun a hF=>?_
 refine E.opv hF (r_move (hF.at 2 rfl)) rfl rfl rfl rfl fun a hF=>?_
 refine E.opv hF (r_builtin (map1 (hF.at 0 rfl)) bl_strs) rfl rfl rfl rfl fun a hF=>?_
 refine E.opv hF (r_bin (hF.at 2 rfl) (hF.at 0 rfl) eg_scalar (bi_int (ic_neq (c:=false) (dec_ff (by omega))) (by simp))) rfl rfl rfl rfl fun a hF=>?_
 refine E.nil ?_
 refine wp_cond_false (hF.at 0 rfl) ?_
 refine wp_skip ?_
 refine E.norm ?_
 refine wp_seq ?_
 refine wp_seq ?_
 refine E.seq ?_
 refine E.opv hF (r_move (hF.at 6 rfl)) rfl rfl rfl rfl fun a hF=>?_
 refine E.opv hF (r_builtin (map1 (hF.at 0 rfl)) bl_strs) rfl rfl rfl rfl fun a hF=>?_
 refine E.opv hF (r_move ev_c) rfl rfl rfl rfl fun a hF=>?_
 refine E.nil ?_
 refine wp_block ?_
 refine E.loop (fun mq a wv=>∃(i:Nat),i≤L.length∧Fr 54 a [(21,.int .i64 ((i:Nat):Int)),(20,.int .i64 (((L.length:Nat)):Int)),(6,.slice (some ⟨gs,0,none⟩) L.length cpgs),(5,.slice (some ⟨gr,0,none⟩) L.length cpgr),(0,.int .i64 z),(1,.int .i64 y)]∧St w wv [(gs,strC L++moregs),(gr,strC L++moregr)] []∧mq=L.length-i) ((L.length-0)) ?_ ?_
 ·exact⟨0,(Nat.zero_le _),Fr.pick (L':=[(21,.int .i64 ((0:Nat):Int)),(20,.int .i64 (((L.length:Nat)):Int)),(6,.slice (some ⟨gs,0,none⟩) L.length cpgs),(5,.slice (some ⟨gr,0,none⟩) L.length cpgr),(0,.int .i64 z),(1,.int .i64 y)]) hF [0,1,8,9,17,18] rfl,st.pick [0,1] [] rfl rfl (by decide),rfl⟩
 ·rintro mq a w4 ⟨i,hi,hF,st,hm⟩
  by_cases hlt:i<L.length
  ·refine wp_seq ?_
   refine E.seq ?_
   refine E.opv hF (r_bin (hF.at 0 rfl) (hF.at 1 rfl) eg_scalar (bi_int (ic_lss (c:=true) (dec_tt (by omega))) (by simp))) rfl rfl rfl rfl fun a hF=>?_
   refine E.nil ?_
   refine wp_seq ?_
   refine wp_cond_true (hF.at 0 rfl) ?_
   refine wp_skip ?_
   refine E.norm ?_
   refine wp_seq ?_
   refine wp_block ?_
   refine wp_seq ?_
   refine E.seq ?_
   refine E.opv hF (r_move (hF.at 1 rfl)) rfl rfl rfl rfl fun a hF=>?_
   refine E.opv hF (r_assign (hF.at 0 rfl)) rfl rfl rfl rfl fun a hF=>?_
   refine E.nil ?_
   refine wp_seq ?_
   refine E.rg 9 mixed hF [24,25,26,27,28,29,30,31,32] [_,_,.ex (.pointer (some ⟨gr,i,none⟩)),_,_,_,.ex (.pointer (some ⟨gs,i,none⟩)),_,.ex (.bool false)] (by decide+kernel) rfl rfl rfl ⟨rm 6 rfl,rm 0 rfl,(by intro a' w' hF' hb hd;have e24:=sHe hd 0 24 rfl rfl rfl rfl;have e25:=sHe hd 1 25 rfl rfl rfl rfl;exact dv0 (r_index e24 e25 (ix_strs (i:=i) (by omega) (by omega))) rfl rfl rfl),rld rfl fun _ hb=>(ldb_str (v:= .string (bstr (atL L i))) ((st.bk 1 rfl).below hb) (strC_at (atL_at (by omega)) _)),rm 5 rfl,rm 0 rfl,(by intro a' w' hF' hb hd;have e28:=sHe hd 0 28 rfl rfl rfl rfl;have e29:=sHe hd 1 29 rfl rfl rfl rfl;exact dv0 (r_index e28 e29 (ix_strs (i:=i) (by omega) (by omega))) rfl rfl rfl),rld rfl fun _ hb=>(ldb_str (v:= .string (bstr (atL L i))) ((st.bk 0 rfl).below hb) (strC_at (atL_at (by omega)) _)),(by intro a' w' hF' hb hd;have e27:=sHe hd 0 27 rfl rfl rfl rfl;have e31:=sHe hd 1 31 rfl rfl rfl rfl;exact dv0 (r_bin e27 e31 eg_str (sb_ne (xs:=(atL L i)) (ys:=(atL L i)) (by rw[sw_t rfl] <;> rfl))) rfl rfl rfl),trivial⟩ ?_
   intro a w5 hF bb hall
   replace st:=st.to bb
   replace hF:=rE hall hF 8 rfl rfl
   clear hall bb
   refine E.nil ?_
   refine wp_cond_false (hF.at 0 rfl) ?_
   refine wp_skip ?_
   refine E.blk ?_
   refine E.norm ?_
   refine E.seq ?_
   refine E.opv hF (r_bin (hF.at 4 rfl) ev_c eg_scalar (ia_add (by omega) (by omega))) rfl rfl rfl rfl fun a hF=>?_
   refine E.opset (L':=[(21,.int .i64 (((i:Nat):Int)+1)),(33,.int .i64 (((i:Nat):Int)+1)),(32,.bool false),(7,.int .i64 ((i:Nat):Int)),(23,.int .i64 ((i:Nat):Int)),(22,.bool true),(20,.int .i64 (((L.length:Nat)):Int)),(6,.slice (some ⟨gs,0,none⟩) L.length cpgs),(5,.slice (some ⟨gr,0,none⟩) L.length cpgr),(0,.int .i64 z),(1,.int .i64 y)]) hF (r_move (hF.at 0 rfl)) rfl rfl rfl rfl fun a hF=>?_
   refine E.nil0 ?_
   refine E.norm ?_
   replace hF:Fr 54 a [(21,.int .i64 ((i+1:Nat):Int)),(33,.int .i64 (((i:Nat):Int)+1)),(32,.bool false),(7,.int .i64 ((i:Nat):Int)),(23,.int .i64 ((i:Nat):Int)),(22,.bool true),(20,.int .i64 (((L.length:Nat)):Int)),(6,.slice (some ⟨gs,0,none⟩) L.length cpgs),(5,.slice (some ⟨gr,0,none⟩) L.length cpgr),(0,.int .i64 z),(1,.int .i64 y)]:=by rw[show((i+1:Nat):Int)=((i:Nat):Int)+1 by omega];exact hF
   exact⟨(L.length-(i+1)),by omega,⟨(i+1),(by omega),Fr.pick (L':=[(21,.int .i64 ((i+1:Nat):Int)),(20,.int .i64 (((L.length:Nat)):Int)),(6,.slice (some ⟨gs,0,none⟩) L.length cpgs),(5,.slice (some ⟨gr,0,none⟩) L.length cpgr),(0,.int .i64 z),(1,.int .i64 y)]) hF [0,6,7,8,9,10] rfl,st.pick [0,1] [] rfl rfl (by decide),rfl⟩⟩
  ·refine wp_seq ?_
   refine E.seq ?_
   refine E.opv hF (r_bin (hF.at 0 rfl) (hF.at 1 rfl) eg_scalar (bi_int (ic_lss (c:=false) (dec_ff (by omega))) (by simp))) rfl rfl rfl rfl fun a hF=>?_
   refine E.nil ?_
   refine wp_seq ?_
   refine wp_cond_false (hF.at 0 rfl) ?_
   refine wp_exit ?_
   refine E.past ?_
   refine E.past ?_
   refine E.out (id:=0) ?_
   refine E.norm ?_
   refine wp_seq ?_
   refine wp_seq ?_
   refine E.seq ?_
   refine E.opv hF (r_move (hF.at 6 rfl)) rfl rfl rfl rfl fun a hF=>?_
   by_cases hc6:y<0
   ·refine E.opv hF (r_bin (hF.at 0 rfl) ev_c eg_scalar (bi_int (ic_lss (c:=true) (dec_tt (by omega))) (by simp))) rfl rfl rfl rfl fun a hF=>?_
    refine E.opv hF (r_move (hF.at 0 rfl)) rfl rfl rfl rfl fun a hF=>?_
    refine E.unwanted hF (wanted_by rfl rfl (hF.at 0 rfl) rfl) rfl rfl rfl fun a hF=>?_
    refine E.unwanted hF (wanted_by rfl rfl (hF.at 1 rfl) rfl) rfl rfl rfl fun a hF=>?_
    refine E.unwanted hF (wanted_by rfl rfl (hF.at 2 rfl) rfl) rfl rfl rfl fun a hF=>?_
    refine E.unwanted hF (wanted_by rfl rfl (hF.at 3 rfl) rfl) rfl rfl rfl fun a hF=>?_
    refine E.opv hF (r_pick_t (hF.at 4 rfl) ev_c) rfl rfl rfl rfl fun a hF=>?_
    refine E.nil ?_
    refine wp_cond_true (hF.at 0 rfl) ?_
    refine wp_seq ?_
    refine E.seq ?_
    refine E.opv hF (r_move (hF.at 13 rfl)) rfl rfl rfl rfl fun a hF=>?_
    refine E.opv hF (r_move (hF.at 15 rfl)) rfl rfl rfl rfl fun a hF=>?_
    refine S.callx st hF (rgc k9 (map2 (hF.at 1 rfl) (hF.at 0 rfl))) (hNo _ (hT.below st.bel)) rfl rfl rfl rfl fun w7 a st hF=>?_
    refine E.opv hF (r_bin (hF.at 0 rfl) ev_c eg_str (sb_eq (xs:=([])) (ys:=[]) (sw_t rfl))) rfl rfl rfl rfl fun a hF=>?_
    refine E.opv hF (r_assign (hF.at 0 rfl)) rfl rfl rfl rfl fun a hF=>?_
    refine E.nil ?_
    refine wp_ret ?_
    have bel:=st.bel
    refine bodyPost_ret (res_tmp Tryd.results3 (hF.at 0 rfl)) hF.dfr ?_
    exact⟨rfl,bel⟩
   ·refine E.opv hF (r_bin (hF.at 0 rfl) ev_c eg_scalar (bi_int (ic_lss (c:=false) (dec_ff (by omega))) (by simp))) rfl rfl rfl rfl fun a hF=>?_
    refine E.opv hF (r_move (hF.at 0 rfl)) rfl rfl rfl rfl fun a hF=>?_
    refine E.opvg hF (r_move (hF.at 9 rfl)) (wanted_by rfl rfl (hF.at 0 rfl) rfl) rfl rfl rfl fun a hF=>?_
    refine E.opvg hF (r_move (hF.at 7 rfl)) (wanted_by rfl rfl (hF.at 1 rfl) rfl) rfl rfl rfl fun a hF=>?_
    refine E.opvg hF (r_builtin (map1 (hF.at 0 rfl)) bl_strs) (wanted_by rfl rfl (hF.at 2 rfl) rfl) rfl rfl rfl fun a hF=>?_
    refine E.opvg hF (r_bin (hF.at 2 rfl) (hF.at 0 rfl) eg_scalar (bi_int (ic_geq (c:=true) (dec_tt (by omega))) (by simp))) (wanted_by rfl rfl (hF.at 3 rfl) rfl) rfl rfl rfl fun a hF=>?_
    refine E.opv hF (r_pick_f (hF.at 4 rfl) (hF.at 0 rfl)) rfl rfl rfl rfl fun a hF=>?_
    refine E.nil ?_
    refine wp_cond_true (hF.at 0 rfl) ?_
    refine wp_seq ?_
    refine E.seq ?_
    refine E.opv hF (r_move (hF.at 13 rfl)) rfl rfl rfl rfl fun a hF=>?_
    refine E.opv hF (r_move (hF.at 15 rfl)) rfl rfl rfl rfl fun a hF=>?_
    refine S.callx st hF (rgc k9 (map2 (hF.at 1 rfl) (hF.at 0 rfl))) (hNo _ (hT.below st.bel)) rfl rfl rfl rfl fun w8 a st hF=>?_
    refine E.opv hF (r_bin (hF.at 0 rfl) ev_c eg_str (sb_eq (xs:=([])) (ys:=[]) (sw_t rfl))) rfl rfl rfl rfl fun a hF=>?_
    refine E.opv hF (r_assign (hF.at 0 rfl)) rfl rfl rfl rfl fun a hF=>?_
    refine E.nil ?_
    refine wp_ret ?_
    have bel:=st.bel
    refine bodyPost_ret (res_tmp Tryd.results3 (hF.at 0 rfl)) hF.dfr ?_
    exact⟨rfl,bel⟩
theorem wordsNames_nil (z:Int) (hA:∀w,TabA w→Calls Tryd.prog 7 #[.int .i64 z] w (RowsP w [])) (hR:∀w,Calls Tryd.prog 8 #[.int .i64 z] w (RowsP w [])) (y:Int) (hNo:∀w,TabA w→Calls Tryd.prog 9 #[.int .i64 z,.int .i64 y] w (ValPost w (.string (bstr [])))) (w:World) (hT:TabA w):
 Calls Tryd.prog 3 #[.int .i64 z,.int .i64 y] w (ValPost w (.bool true)):=by
 have h0:([]:List (List Nat)).length =0:=rfl
 have st:=St.start w
 refine E.enter (nt:=54) (L:=[(0,.int .i64 z),(1,.int .i64 y)]) Tryd.func3 rfl rfl rfl (args_cons (i:=0) rfl (args_cons (i:=1) rfl args_nil)) ?_
 intro a hF
 refine wp_seq ?_
 refine E.seq ?_
 refine E.opv hF (r_assign ev_c) rfl rfl rfl rfl fun a hF=>?_
 refine E.nil ?_
 refine wp_seq ?_
 refine wp_seq ?_
 refine E.seq ?_
 refine S.callx st hF (rgc k6 map0) (wAwake_any _ (hT.below st.bel)) rfl rfl rfl rfl fun w1 a st hF=>?_
 refine E.opv hF (r_un (hF.at 0 rfl) (bn_not _ false rfl)) rfl rfl rfl rfl fun a hF=>?_
 refine E.nil ?_
 refine wp_cond_false (hF.at 0 rfl) ?_
 refine wp_skip ?_
 refine E.norm ?_
 refine wp_seq ?_
 refine E.seq ?_
 refine E.opv hF (r_move (hF.at 3 rfl)) rfl rfl rfl rfl fun a hF=>?_
 refine E.call hF (rgc k7 (map1 (hF.at 0 rfl))) (hA _ (hT.below st.bel)) rfl rfl rfl rfl ?_
 rintro e w2 ⟨adgr,cpgr,rfl,hac,bb⟩
 refine⟨_,rfl,?_⟩
 intro a hF
 replace st:=st.to bb
 clear bb hac
 refine E.opv hF (r_move (hF.at 5 rfl)) rfl rfl rfl rfl fun a hF=>?_
 refine E.call hF (rgc k8 (map1 (hF.at 0 rfl))) (hR _) rfl rfl rfl rfl ?_
 rintro e w3 ⟨adgs,cpgs,rfl,hac,bb⟩
 refine⟨_,rfl,?_⟩
 intro a hF
 replace st:=st.to bb
 clear bb hac
 refine E.opv hF (r_assign (hF.at 2 rfl)) rfl rfl rfl rfl fun a hF=>?_
 refine E.opv hF (r_assign (hF.at 1 rfl)) rfl rfl rfl rfl fun a hF=>?_
 refine E.nil ?_
 refine wp_seq ?_
 refine wp_seq ?_
 refine E.seq ?_
 refine E.opv hF (r_move (hF.at 1 rfl)) rfl rfl rfl rfl fun a hF=>?_
 refine E.opv hF (r_builtin (map1 (hF.at 0 rfl)) bl_strs) rfl rfl rfl rfl fun a hF=>?_
 refine E.opv hF (r_move (hF.at 2 rfl)) rfl rfl rfl rfl fun a hF=>?_
 refine E.opv hF (r_builtin (map1 (hF.at 0 rfl)) bl_strs) rfl rfl rfl rfl fun a hF=>?_
 refine E.opv hF (r_bin (hF.at 2 rfl) (hF.at 0 rfl) eg_scalar (bi_int (ic_neq (c:=false) (dec_ff (by omega))) (by simp))) rfl rfl rfl rfl fun a hF=>?_
 refine E.nil ?_
 refine wp_cond_false (hF.at 0 rfl) ?_
 refine wp_skip ?_
 refine E.norm ?_
 refine wp_seq ?_
 refine wp_seq ?_
 refine E.seq ?_
 refine E.opv hF (r_move (hF.at 6 rfl)) rfl rfl rfl rfl fun a hF=>?_
 refine E.opv hF (r_builtin (map1 (hF.at 0 rfl)) bl_strs) rfl rfl rfl rfl fun a hF=>?_
 refine E.opv hF (r_move ev_c) rfl rfl rfl rfl fun a hF=>?_
 refine E.nil ?_
 refine wp_block ?_
 refine E.loop (fun mq a wv=>∃(i:Nat),i≤([]:List (List Nat)).length ∧Fr 54 a [(21,.int .i64 ((i:Nat):Int)),(20,.int .i64 (((([]:List (List Nat)).length :Nat)):Int)),(6,.slice adgs ([]:List (List Nat)).length cpgs),(5,.slice adgr ([]:List (List Nat)).length cpgr),(0,.int .i64 z),(1,.int .i64 y)]∧St w wv [] []∧mq=([]:List (List Nat)).length - i) ((([]:List (List Nat)).length - 0)) ?_ ?_
 ·exact⟨0,(Nat.zero_le _),Fr.pick (L':=[(21,.int .i64 ((0:Nat):Int)),(20,.int .i64 (((([]:List (List Nat)).length :Nat)):Int)),(6,.slice adgs ([]:List (List Nat)).length cpgs),(5,.slice adgr ([]:List (List Nat)).length cpgr),(0,.int .i64 z),(1,.int .i64 y)]) hF [0,1,8,9,17,18] rfl,st.pick [] [] rfl rfl (by decide),rfl⟩
 ·rintro mq a w4 ⟨i,hi,hF,st,hm⟩
  refine wp_seq ?_
  refine E.seq ?_
  refine E.opv hF (r_bin (hF.at 0 rfl) (hF.at 1 rfl) eg_scalar (bi_int (ic_lss (c:=false) (dec_ff (by omega))) (by simp))) rfl rfl rfl rfl fun a hF=>?_
  refine E.nil ?_
  refine wp_seq ?_
  refine wp_cond_false (hF.at 0 rfl) ?_
  refine wp_exit ?_
  refine E.past ?_
  refine E.past ?_
  refine E.out (id:=0) ?_
  refine E.norm ?_
  refine wp_seq ?_
  refine wp_seq ?_
  refine E.seq ?_
  refine E.opv hF (r_move (hF.at 6 rfl)) rfl rfl rfl rfl fun a hF=>?_
  by_cases hc5:y<0
  ·refine E.opv hF (r_bin (hF.at 0 rfl) ev_c eg_scalar (bi_int (ic_lss (c:=true) (dec_tt (by omega))) (by simp))) rfl rfl rfl rfl fun a hF=>?_
   refine E.opv hF (r_move (hF.at 0 rfl)) rfl rfl rfl rfl fun a hF=>?_
   refine E.unwanted hF (wanted_by rfl rfl (hF.at 0 rfl) rfl) rfl rfl rfl fun a hF=>?_
   refine E.unwanted hF (wanted_by rfl rfl (hF.at 1 rfl) rfl) rfl rfl rfl fun a hF=>?_
   refine E.unwanted hF (wanted_by rfl rfl (hF.at 2 rfl) rfl) rfl rfl rfl fun a hF=>?_
   refine E.unwanted hF (wanted_by rfl rfl (hF.at 3 rfl) rfl) rfl rfl rfl fun a hF=>?_
   refine E.opv hF (r_pick_t (hF.at 4 rfl) ev_c) rfl rfl rfl rfl fun a hF=>?_
   refine E.nil ?_
   refine wp_cond_true (hF.at 0 rfl) ?_
   refine wp_seq ?_
   refine E.seq ?_
   refine E.opv hF (r_move (hF.at 13 rfl)) rfl rfl rfl rfl fun a hF=>?_
   refine E.opv hF (r_move (hF.at 15 rfl)) rfl rfl rfl rfl fun a hF=>?_
   refine S.callx st hF (rgc k9 (map2 (hF.at 1 rfl) (hF.at 0 rfl))) (hNo _ (hT.below st.bel)) rfl rfl rfl rfl fun w6 a st hF=>?_
   refine E.opv hF (r_bin (hF.at 0 rfl) ev_c eg_str (sb_eq (xs:=([])) (ys:=[]) (sw_t rfl))) rfl rfl rfl rfl fun a hF=>?_
   refine E.opv hF (r_assign (hF.at 0 rfl)) rfl rfl rfl rfl fun a hF=>?_
   refine E.nil ?_
   refine wp_ret ?_
   have bel:=st.bel
   refine bodyPost_ret (res_tmp Tryd.results3 (hF.at 0 rfl)) hF.dfr ?_
   exact⟨rfl,bel⟩
  ·refine E.opv hF (r_bin (hF.at 0 rfl) ev_c eg_scalar (bi_int (ic_lss (c:=false) (dec_ff (by omega))) (by simp))) rfl rfl rfl rfl fun a hF=>?_
   refine E.opv hF (r_move (hF.at 0 rfl)) rfl rfl rfl rfl fun a hF=>?_
   refine E.opvg hF (r_move (hF.at 9 rfl)) (wanted_by rfl rfl (hF.at 0 rfl) rfl) rfl rfl rfl fun a hF=>?_
   refine E.opvg hF (r_move (hF.at 7 rfl)) (wanted_by rfl rfl (hF.at 1 rfl) rfl) rfl rfl rfl fun a hF=>?_
   refine E.opvg hF (r_builtin (map1 (hF.at 0 rfl)) bl_strs) (wanted_by rfl rfl (hF.at 2 rfl) rfl) rfl rfl rfl fun a hF=>?_
   refine E.opvg hF (r_bin (hF.at 2 rfl) (hF.at 0 rfl) eg_scalar (bi_int (ic_geq (c:=true) (dec_tt (by omega))) (by simp))) (wanted_by rfl rfl (hF.at 3 rfl) rfl) rfl rfl rfl fun a hF=>?_
   refine E.opv hF (r_pick_f (hF.at 4 rfl) (hF.at 0 rfl)) rfl rfl rfl rfl fun a hF=>?_
   refine E.nil ?_
   refine wp_cond_true (hF.at 0 rfl) ?_
   refine wp_seq ?_
   refine E.seq ?_
   refine E.opv hF (r_move (hF.at 13 rfl)) rfl rfl rfl rfl fun a hF=>?_
   refine E.opv hF (r_move (hF.at 15 rfl)) rfl rfl rfl rfl fun a hF=>?_
   refine S.callx st hF (rgc k9 (map2 (hF.at 1 rfl) (hF.at 0 rfl))) (hNo _ (hT.below st.bel)) rfl rfl rfl rfl fun w7 a st hF=>?_
   refine E.opv hF (r_bin (hF.at 0 rfl) ev_c eg_str (sb_eq (xs:=([])) (ys:=[]) (sw_t rfl))) rfl rfl rfl rfl fun a hF=>?_
   refine E.opv hF (r_assign (hF.at 0 rfl)) rfl rfl rfl rfl fun a hF=>?_
   refine E.nil ?_
   refine wp_ret ?_
   have bel:=st.bel
   refine bodyPost_ret (res_tmp Tryd.results3 (hF.at 0 rfl)) hF.dfr ?_
   exact⟨rfl,bel⟩
theorem wordsNames_walk (z y:Int) (w:World) (hT:TabA w):Calls Tryd.prog 3 #[.int .i64 z,.int .i64 y] w (ValPost w (.bool true)):=by
 by_cases h:0≤y∧y<(nmK z).length
 ·obtain⟨j,rfl⟩:∃j:Nat,y=((j:Nat):Int):=⟨y.toNat,by omega⟩
  have hj:j<(nmK z).length :=by omega
  exact wordsNames_in z _ (fun w hT=>wAll_any z w hT) (fun w=>rAll27_any z w) (nmK_few z) (by omega) j hj (fun w hT=>wName_in z _ (fun w hT=>wAll_any z w hT) (nmK_few z) j hj w hT) w hT
 ·have hN:=fun w hT=>wName_out z _ (fun w hT=>wAll_any z w hT) (nmK_few z) y h w hT
  rcases Nat.eq_zero_or_pos (nmK z).length with q|q
  ·have e:=List.eq_nil_of_length_eq_zero q
   exact wordsNames_nil z (fun w hT=>e▸wAll_any z w hT) (fun w=>e▸rAll27_any z w) y hN w hT
  ·exact wordsNames_out z _ (fun w hT=>wAll_any z w hT) (fun w=>rAll27_any z w) (nmK_few z) q y h hN w hT
end Go.Proofs.YtdkmjclbhfnegaaDoor
