import Derived.Test.YtdkmjclbhfnegaaDoorKA38
import Derived.Test.YtdkmjclbhfnegaaDoorKA39
namespace Go.Proofs.YtdkmjclbhfnegaaDoor
open Go.RowKit
set_option maxRecDepth 100000
set_option linter.unusedVariables false
set_option maxHeartbeats 8000000
theorem sls_hw {P:Program} {w:World} {t:TypeId} {xs:List Nat} {z:Int} {j:Nat} (ht:P.underlying t=some .string) (hz:z=((j:Nat):Int)) (hj:j≤xs.length):(Instr.sliceAt t (.string (bstr xs)) none (some (.int .i64 z)) none).run P w= .ok (.string (bstr (List.take j xs))) w:=by
 subst hz
 have e:(bstr xs).extract 0 j=bstr (List.take j xs):=by
  apply ByteArray.ext
  simp[bstr,ByteArray.data_extract]
 simp[Instr.sliceAt,Instr.slice,Instr.sliceBounds,Instr.sliceBound,asIntOf,run_underlying ht,Sem.run_bind,go_sem,bstr_size,e,hj]
theorem r_slicw {P:Program} {w:World} {a:Act} {dst:Option Tmp} {ty:TypeId} {pos:String} {af:Array Edge} {gd:Option (Nat×Bool)} {t:TypeId} {x hi:Operand} {p q v:Value} (h:a.eval x=p) (h2:a.eval hi=q) (hl:(Instr.sliceAt t p none (some q) none).run P w= .ok v w):
 (execOp a.eval ⟨dst,.slice t x none (some hi) none,ty,pos,af,gd⟩).run P w= .ok (.value v) w:=by
 simp only [execOp,h,h2,Option.map]
 exact run_v hl
theorem bstr_ofw (s:ByteArray):∃xs:List Nat,s=bstr xs∧okb 256 xs:=⟨_,(bstr_back s).symm,okb_back s⟩
theorem mod_nat (x:Int) {n:Nat} (h:0<n):∃m:Nat,x%(n:Int)=(m:Int)∧m<n:=by
 have h1:=Int.emod_nonneg x (b:=(n:Int)) (by omega)
 have h2:=Int.emod_lt_of_pos x (b:=(n:Int)) (by omega)
 exact⟨(x%(n:Int)).toNat,by omega,by omega⟩
theorem wCut_any (xs:List Nat) (n:Nat) (w:World):
 Calls Tryd.prog 10 #[.string (bstr xs),.int .i64 ((n:Nat):Int)] w (ValPost w (.string (bstr (List.take n xs)))):=by
 have st:=St.start w
 refine E.enter (nt:=13) (L:=[(0,.string (bstr (xs))),(1,.int .i64 ((n:Nat):Int))]) Tryd.func10 rfl rfl rfl (args_cons (i:=0) rfl (args_cons (i:=1) rfl args_nil)) ?_
 intro a hF
 refine wp_seq ?_
 refine E.seq ?_
 refine E.opv hF (r_assign ev_c) rfl rfl rfl rfl fun a hF=>?_
 refine E.nil ?_
 refine wp_seq ?_
 refine wp_seq ?_
 refine E.seq ?_
 refine E.opv hF (r_move (hF.at 1 rfl)) rfl rfl rfl rfl fun a hF=>?_
 refine E.opv hF (r_builtin (map1 (hF.at 0 rfl)) (bl_str Tryd.underlying9)) rfl rfl rfl rfl fun a hF=>?_
 refine E.opv hF (r_move (hF.at 4 rfl)) rfl rfl rfl rfl fun a hF=>?_
 by_cases hc1:n<xs.length
 ·refine E.opv hF (r_bin (hF.at 1 rfl) (hF.at 0 rfl) eg_scalar (bi_int (ic_gtr (c:=true) (dec_tt (by omega))) (by simp))) rfl rfl rfl rfl fun a hF=>?_
  refine E.nil ?_
  refine wp_cond_true (hF.at 0 rfl) ?_
  refine wp_seq ?_
  refine E.seq ?_
  refine E.opv hF (r_move (hF.at 5 rfl)) rfl rfl rfl rfl fun a hF=>?_
  refine E.opv hF (r_move (hF.at 7 rfl)) rfl rfl rfl rfl fun a hF=>?_
  refine E.opv hF (r_slicw (hF.at 1 rfl) (hF.at 0 rfl) (sls_hw (j:=n) Tryd.underlying9 rfl (by omega))) rfl rfl rfl rfl fun a hF=>?_
  refine E.opset (L':=[(4,.string (bstr (List.take n (xs)))),(11,.string (bstr (List.take n (xs)))),(10,.int .i64 ((n:Nat):Int)),(9,.string (bstr (xs))),(8,.bool true),(7,.int .i64 ((n:Nat):Int)),(6,.int .i64 ((List.length ((xs)):Nat):Int)),(5,.string (bstr (xs))),(0,.string (bstr (xs))),(1,.int .i64 ((n:Nat):Int))]) hF (r_assign (hF.at 0 rfl)) rfl rfl rfl rfl fun a hF=>?_
  refine E.nil ?_
  refine wp_ret ?_
  have bel:=st.bel
  refine bodyPost_ret (res_tmp Tryd.results10 (hF.at 0 rfl)) hF.dfr ?_
  exact⟨rfl,bel⟩
 ·refine E.opv hF (r_bin (hF.at 1 rfl) (hF.at 0 rfl) eg_scalar (bi_int (ic_gtr (c:=false) (dec_ff (by omega))) (by simp))) rfl rfl rfl rfl fun a hF=>?_
  refine E.nil ?_
  refine wp_cond_false (hF.at 0 rfl) ?_
  refine wp_skip ?_
  refine E.norm ?_
  refine wp_seq ?_
  refine E.seq ?_
  refine E.opv hF (r_move (hF.at 5 rfl)) rfl rfl rfl rfl fun a hF=>?_
  refine E.opset (L':=[(4,.string (bstr (xs))),(12,.string (bstr (xs))),(8,.bool false),(7,.int .i64 ((n:Nat):Int)),(6,.int .i64 ((List.length ((xs)):Nat):Int)),(5,.string (bstr (xs))),(0,.string (bstr (xs))),(1,.int .i64 ((n:Nat):Int))]) hF (r_assign (hF.at 0 rfl)) rfl rfl rfl rfl fun a hF=>?_
  refine E.nil ?_
  refine wp_ret ?_
  have bel:=st.bel
  refine bodyPost_ret (res_tmp Tryd.results10 (hF.at 0 rfl)) hF.dfr ?_
  rw[List.take_of_length_le (by omega)]
  exact⟨rfl,bel⟩
theorem wRevati (w:World) (hT:TabA w):Calls Tryd.prog 11 #[.int .i64 4,.string (bstr [114,101,118,97,116,105])] w (ValPost w (.tuple #[.int .i64 26,.bool true])):=by
 have h:=wFind_any 4 [114,101,118,97,116,105] (by unfold okb;decide) (by decide) w hT
 rwa[show fdI (nmK 4) [114,101,118,97,116,105]=26 by decide+kernel,show fdB (nmK 4) [114,101,118,97,116,105]=true by decide+kernel] at h
theorem wN_3_29 (w:World) (hT:TabA w):Calls Tryd.prog 9 #[.int .i64 3,.int .i64 29] w (ValPost w (.string (bstr [97,109,97,118,97,115,121,97]))):=by
 have h:=wName_any 3 29 w hT
 rwa[show nmT (nmK 3) 29=[97,109,97,118,97,115,121,97] by decide+kernel] at h
theorem wN_3_15 (w:World) (hT:TabA w):Calls Tryd.prog 9 #[.int .i64 3,.int .i64 15] w (ValPost w (.string (bstr [107,114,105,115,104,110,97,45,112,114,97,116,105,112,97,100,97]))):=by
 have h:=wName_any 3 15 w hT
 rwa[show nmT (nmK 3) 15=[107,114,105,115,104,110,97,45,112,114,97,116,105,112,97,100,97] by decide+kernel] at h
theorem wN_2_12 (w:World) (hT:TabA w):Calls Tryd.prog 9 #[.int .i64 2,.int .i64 12] w (ValPost w (.string (bstr []))):=by
 have h:=wName_any 2 12 w hT
 rwa[show nmT (nmK 2) 12=[] by decide+kernel] at h
theorem wAwake_any (w:World) (hT:TabA w):
 Calls Tryd.prog 6 #[] w (ValPost w (.bool true)):=by
 have st:=St.start w
 refine E.enter (nt:=24) (L:=[]) Tryd.func6 rfl rfl rfl args_nil ?_
 intro a hF
 refine wp_seq ?_
 refine E.seq ?_
 refine E.opv hF (r_assign ev_c) rfl rfl rfl rfl fun a hF=>?_
 refine E.nil ?_
 refine wp_seq ?_
 refine E.seq ?_
 refine S.callx st hF (rgc k11 (map2 ev_c ev_c)) (wRevati _ (hT.below st.bel)) rfl rfl rfl rfl fun w1 a st hF=>?_
 refine E.opv hF (r_move (hF.at 0 rfl)) rfl rfl rfl rfl fun a hF=>?_
 refine E.opv hF (r_extract (v:= .int .i64 26) (hF.at 0 rfl) rfl) rfl rfl rfl rfl fun a hF=>?_
 refine E.opv hF (r_extract (v:= .bool true) (hF.at 1 rfl) rfl) rfl rfl rfl rfl fun a hF=>?_
 refine E.opv hF (r_assign (hF.at 1 rfl)) rfl rfl rfl rfl fun a hF=>?_
 refine E.opv hF (r_assign (hF.at 1 rfl)) rfl rfl rfl rfl fun a hF=>?_
 refine E.nil ?_
 refine wp_seq ?_
 refine E.seq ?_
 refine S.callx st hF (rgc k9 (map2 ev_c ev_c)) (wN_3_29 _ (hT.below st.bel)) rfl rfl rfl rfl fun w2 a st hF=>?_
 refine E.opv hF (r_bin (hF.at 0 rfl) ev_c eg_str (sb_eq (xs:=([97,109,97,118,97,115,121,97])) (ys:=[97,109,97,118,97,115,121,97]) (sw_t rfl))) rfl rfl rfl rfl fun a hF=>?_
 refine E.opv hF (r_move (hF.at 0 rfl)) rfl rfl rfl rfl fun a hF=>?_
 refine S.callxg st hF (wanted_by rfl rfl (hF.at 0 rfl) rfl) (rgc k9 (map2 ev_c ev_c)) (wN_3_15 _ (hT.below st.bel)) rfl rfl rfl fun w3 a st hF=>?_
 refine E.opvg hF (r_bin (hF.at 0 rfl) ev_c eg_str (sb_eq (xs:=([107,114,105,115,104,110,97,45,112,114,97,116,105,112,97,100,97])) (ys:=[107,114,105,115,104,110,97,45,112,114,97,116,105,112,97,100,97]) (sw_t rfl))) (wanted_by rfl rfl (hF.at 1 rfl) rfl) rfl rfl rfl fun a hF=>?_
 refine E.opv hF (r_pick_t (hF.at 2 rfl) (hF.at 0 rfl)) rfl rfl rfl rfl fun a hF=>?_
 refine E.opv hF (r_move (hF.at 0 rfl)) rfl rfl rfl rfl fun a hF=>?_
 refine E.opvg hF (r_move (hF.at 8 rfl)) (wanted_by rfl rfl (hF.at 0 rfl) rfl) rfl rfl rfl fun a hF=>?_
 refine E.opvg hF (r_bin (hF.at 0 rfl) ev_c eg_scalar (bi_int (ic_eql (c:=true) (by decide)) (by simp))) (wanted_by rfl rfl (hF.at 1 rfl) rfl) rfl rfl rfl fun a hF=>?_
 refine E.opv hF (r_pick_t (hF.at 2 rfl) (hF.at 0 rfl)) rfl rfl rfl rfl fun a hF=>?_
 refine E.opv hF (r_move (hF.at 0 rfl)) rfl rfl rfl rfl fun a hF=>?_
 refine E.opvg hF (r_move (hF.at 11 rfl)) (wanted_by rfl rfl (hF.at 0 rfl) rfl) rfl rfl rfl fun a hF=>?_
 refine E.opv hF (r_pick_t (hF.at 1 rfl) (hF.at 0 rfl)) rfl rfl rfl rfl fun a hF=>?_
 refine E.opv hF (r_move (hF.at 0 rfl)) rfl rfl rfl rfl fun a hF=>?_
 refine S.callxg st hF (wanted_by rfl rfl (hF.at 0 rfl) rfl) (rgc k9 (map2 ev_c ev_c)) (wN_2_12 _ (hT.below st.bel)) rfl rfl rfl fun w4 a st hF=>?_
 refine E.opvg hF (r_bin (hF.at 0 rfl) ev_c eg_str (sb_eq (xs:=([])) (ys:=[]) (sw_t rfl))) (wanted_by rfl rfl (hF.at 1 rfl) rfl) rfl rfl rfl fun a hF=>?_
 refine E.opv hF (r_pick_t (hF.at 2 rfl) (hF.at 0 rfl)) rfl rfl rfl rfl fun a hF=>?_
 refine E.opset (L':=[(0,.bool true),(23,.bool true),(22,.bool true),(21,.string (bstr ([]))),(20,.bool true),(19,.bool true),(18,.bool true),(17,.bool true),(16,.bool true),(15,.bool true),(14,.int .i64 26),(13,.bool true),(12,.bool true),(11,.bool true),(10,.string (bstr ([107,114,105,115,104,110,97,45,112,114,97,116,105,112,97,100,97]))),(9,.bool true),(8,.bool true),(7,.string (bstr ([97,109,97,118,97,115,121,97]))),(2,.bool true),(1,.int .i64 26),(6,.bool true),(5,.int .i64 26),(3,.tuple #[.int .i64 26,.bool true]),(4,.tuple #[.int .i64 26,.bool true])]) hF (r_assign (hF.at 0 rfl)) rfl rfl rfl rfl fun a hF=>?_
 refine E.nil ?_
 refine wp_ret ?_
 have bel:=st.bel
 refine bodyPost_ret (res_tmp Tryd.results6 (hF.at 0 rfl)) hF.dfr ?_
 exact⟨rfl,bel⟩
end Go.Proofs.YtdkmjclbhfnegaaDoor
