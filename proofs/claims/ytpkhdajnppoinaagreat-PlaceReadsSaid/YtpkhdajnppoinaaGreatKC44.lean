import Derived.Test.YtpkhdajnppoinaaGreatKC43
namespace Go.Proofs.YtpkhdajnppoinaaGreat
open Go.RowKit
set_option maxRecDepth 100000
set_option linter.unusedVariables false
set_option maxHeartbeats 8000000
theorem ppV_zero {xs:List Nat} (h:ppE xs≠0) (z:Int):ppI xs z=0:=by unfold ppI;rw[if_neg h]
theorem pp_good {xs:List Nat} (h:ppE xs=0):anE (hd44 xs)=0∧anE (tl44 xs)=0∧plE (anA (hd44 xs)) (anB (hd44 xs)) (anA (tl44 xs)) (anB (tl44 xs))=0:=by
 by_cases a:has44 xs=false
 ·have:=pp_1 a;omega
 ·by_cases b:anE (hd44 xs)≠0
  ·have:=pp_2 a b;omega
  ·by_cases c:anE (tl44 xs)≠0
   ·have:=pp_3 a b c;omega
   ·have:=pp_4 a b c
    exact⟨Classical.not_not.1 b,Classical.not_not.1 c,by omega⟩
theorem pp_check {xs:List Nat} (h:ppE xs=0):plE (ppI xs (anA (hd44 xs))) (ppI xs (anB (hd44 xs))) (ppI xs (anA (tl44 xs))) (ppI xs (anB (tl44 xs)))=0:=by
 simp only [ppI_yes h];exact(pp_good h).2.2
theorem pp_cz1 {xs:List Nat} (h:ppE xs=0):((ppI xs (anA (hd44 xs)):Int):Rat)/((ppI xs (anB (hd44 xs)):Int):Rat)=cz (hd44 xs):=by
 rw[ppI_yes h,ppI_yes h];exact(an_val (pp_good h).1).2.1
theorem pp_cz2 {xs:List Nat} (h:ppE xs=0):((ppI xs (anA (tl44 xs)):Int):Rat)/((ppI xs (anB (tl44 xs)):Int):Rat)=cz (tl44 xs):=by
 rw[ppI_yes h,ppI_yes h];exact(an_val (pp_good h).2.1).2.1
theorem pp_low {xs:List Nat} (h:ppE xs=0):Rat.num (((ppI xs (anA (hd44 xs)):Int):Rat)/((ppI xs (anB (hd44 xs)):Int):Rat))=Rat.num ((ppI xs (anA (hd44 xs)):Int):Rat):=by
 rw[pp_cz1 h,ppI_yes h,(an_val (pp_good h).1).2.2.1,Rat.num_intCast]
theorem bstr_of (s:ByteArray):∃xs:List Nat,s=bstr xs∧okb 256 xs:=by
 refine⟨s.data.toList.map UInt8.toNat,?_,?_⟩
 ·apply ByteArray.ext
  simp[bstr,List.map_map,Function.comp_def]
 ·intro x hx
  obtain⟨y,_,rfl⟩:=List.mem_map.1 hx
  exact UInt8.toNat_lt y
theorem scutn_any (xs:List Nat) (n:Nat) (w:World):
 Calls Tryz.prog 4 #[.string (bstr xs),.int .i64 ((n:Nat):Int)] w (ValPost w (.string (bstr (List.take n xs)))):=by
 have bel:Below w.heap.size w w:=Below.refl _ _
 refine E.enter (nt:=13) (L:=[(0,.string (bstr xs)),(1,.int .i64 ((n:Nat):Int))]) Tryz.func4 rfl rfl rfl (args_cons (i:=0) rfl (args_cons (i:=1) rfl args_nil)) ?_
 intro a hF
 refine wp_seq ?_
 refine E.seq ?_
 refine E.opv hF (r_assign ev_c) rfl rfl rfl rfl fun a hF=>?_
 refine E.nil ?_
 refine wp_seq ?_
 refine wp_seq ?_
 refine E.seq ?_
 refine E.opv hF (r_move (hF.at 1 rfl)) rfl rfl rfl rfl fun a hF=>?_
 refine E.opv hF (r_builtin (map1 (hF.at 0 rfl)) (bl_str Tryz.underlying9)) rfl rfl rfl rfl fun a hF=>?_
 refine E.opv hF (r_move (hF.at 4 rfl)) rfl rfl rfl rfl fun a hF=>?_
 by_cases hc1:((n:Nat):Int)<((List.length (xs):Nat):Int)
 ·refine E.opv hF (r_bin (hF.at 1 rfl) (hF.at 0 rfl) eg_scalar (bi_int (ic_gtr (c:=true) (dec_tt hc1)) (by simp))) rfl rfl rfl rfl fun a hF=>?_
  refine E.nil ?_
  refine wp_cond_true (hF.at 0 rfl) ?_
  refine wp_seq ?_
  refine E.seq ?_
  refine E.opv hF (r_move (hF.at 5 rfl)) rfl rfl rfl rfl fun a hF=>?_
  refine E.opv hF (r_move (hF.at 7 rfl)) rfl rfl rfl rfl fun a hF=>?_
  refine E.opv hF (r_slice (hF.at 1 rfl) (hF.at 0 rfl) (sls_hi (xs:=xs) (j:=n) Tryz.underlying9 (by first|rfl|omega) (by omega))) rfl rfl rfl rfl fun a hF=>?_
  refine E.opset (L':=[(4,.string (bstr (List.take (n) (xs)))),(11,.string (bstr (List.take (n) (xs)))),(10,.int .i64 ((n:Nat):Int)),(9,.string (bstr xs)),(8,.bool true),(7,.int .i64 ((n:Nat):Int)),(6,.int .i64 ((List.length (xs):Nat):Int)),(5,.string (bstr xs)),(0,.string (bstr xs)),(1,.int .i64 ((n:Nat):Int))]) hF (r_assign (hF.at 0 rfl)) rfl rfl rfl rfl fun a hF=>?_
  refine E.nil ?_
  refine wp_ret ?_
  refine bodyPost_ret (res_tmp Tryz.results4 (hF.at 0 rfl)) hF.dfr ?_
  exact⟨rv_str (rfl),bel⟩
 ·refine E.opv hF (r_bin (hF.at 1 rfl) (hF.at 0 rfl) eg_scalar (bi_int (ic_gtr (c:=false) (dec_ff hc1)) (by simp))) rfl rfl rfl rfl fun a hF=>?_
  refine E.nil ?_
  refine wp_cond_false (hF.at 0 rfl) ?_
  refine wp_skip ?_
  refine E.norm ?_
  refine wp_seq ?_
  refine E.seq ?_
  refine E.opv hF (r_move (hF.at 5 rfl)) rfl rfl rfl rfl fun a hF=>?_
  refine E.opset (L':=[(4,.string (bstr xs)),(12,.string (bstr xs)),(8,.bool false),(7,.int .i64 ((n:Nat):Int)),(6,.int .i64 ((List.length (xs):Nat):Int)),(5,.string (bstr xs)),(0,.string (bstr xs)),(1,.int .i64 ((n:Nat):Int))]) hF (r_assign (hF.at 0 rfl)) rfl rfl rfl rfl fun a hF=>?_
  refine E.nil ?_
  refine wp_ret ?_
  refine bodyPost_ret (res_tmp Tryz.results4 (hF.at 0 rfl)) hF.dfr ?_
  exact⟨rv_str ((List.take_of_length_le (by omega)).symm),bel⟩
theorem placeReads_walk (xs:List Nat) (w:World) (hM:MLen w) (h8:okb 256 xs):
 Calls Tryz.prog 3 #[.string (bstr xs)] w (ValPost w (.bool true)):=by
 obtain⟨S,hS⟩:∃S,S=List.take 40 xs:=⟨_,rfl⟩
 have h8S:okb 256 S:=by rw[hS];exact okb_take h8 _
 have hSl:S.length≤40:=by rw[hS,List.length_take];omega
 have bel:Below w.heap.size w w:=Below.refl _ _
 refine E.enter (nt:=62) (L:=[(0,.string (bstr xs))]) Tryz.func3 rfl rfl rfl (args_cons (i:=0) rfl args_nil) ?_
 intro a hF
 refine wp_seq ?_
 refine E.seq ?_
 refine E.opv hF (r_assign ev_c) rfl rfl rfl rfl fun a hF=>?_
 refine E.nil ?_
 refine wp_seq ?_
 refine E.seq ?_
 refine E.opv hF (r_move (hF.at 1 rfl)) rfl rfl rfl rfl fun a hF=>?_
 refine E.call hF (r_call Tryz.func4 en4.1 en4.2 (map2 (hF.at 0 rfl) ev_c)) (scutn_any (xs) 40 _) rfl rfl rfl rfl ?_
 rintro e w1 ⟨rfl,bb⟩
 refine⟨_,rfl,?_⟩
 intro a hF
 replace bel:=below_to bel bb
 clear bb
 refine E.opset (L':=[(0,.string (bstr (List.take 40 (xs)))),(8,.string (bstr (List.take 40 (xs)))),(7,.string (bstr xs)),(2,.bool false)]) hF (r_assign (hF.at 0 rfl)) rfl rfl rfl rfl fun a hF=>?_
 replace hF:Fr 62 a [(0,.string (bstr S)),(8,.string (bstr (List.take 40 (xs)))),(7,.string (bstr xs)),(2,.bool false)]:=by rw[hS];exact hF
 refine E.nil ?_
 refine wp_seq ?_
 refine wp_seq ?_
 refine E.seq ?_
 refine E.call hF (r_call Tryz.func5 en5.1 en5.2 map0) (awake13_any _ (hM.below bel)) rfl rfl rfl rfl ?_
 rintro e w2 ⟨rfl,bb⟩
 refine⟨_,rfl,?_⟩
 intro a hF
 replace bel:=below_to bel bb
 clear bb
 refine E.opv hF (r_un (hF.at 0 rfl) (bn_not _ false rfl)) rfl rfl rfl rfl fun a hF=>?_
 refine E.nil ?_
 refine wp_cond_false (hF.at 0 rfl) ?_
 refine wp_skip ?_
 refine E.norm ?_
 refine wp_seq ?_
 refine E.seq ?_
 refine E.opv hF (r_move (hF.at 2 rfl)) rfl rfl rfl rfl fun a hF=>?_
 refine E.call hF (r_call Tryz.func6 en6.1 en6.2 (map1 (hF.at 0 rfl))) (pParse_any (S) _ (hM.below bel) h8S (by first|omega|decide)) rfl rfl rfl rfl ?_
 rintro e w3 ⟨rfl,bb⟩
 refine⟨_,rfl,?_⟩
 intro a hF
 have hpb:=pp_bd (S)
 replace bel:=below_to bel bb
 clear bb
 refine E.opv hF (r_move (hF.at 0 rfl)) rfl rfl rfl rfl fun a hF=>?_
 refine E.opv hF (r_extract (v:= .agg #[.int .i64 (ppI (S) (anA (hd44 (S)))),.int .i64 (ppI (S) (anB (hd44 (S)))),.int .i64 (ppI (S) (anA (tl44 (S)))),.int .i64 (ppI (S) (anB (tl44 (S))))]) (hF.at 0 rfl) rfl) rfl rfl rfl rfl fun a hF=>?_
 refine E.opv hF (r_extract (v:= .int .i64 (ppE (S))) (hF.at 1 rfl) rfl) rfl rfl rfl rfl fun a hF=>?_
 obtain⟨g3,w4,ge3,hr,bb,o3⟩:=blk_alloc (P:=Tryz.prog) (w:=w3) (cs:=[.int .i64 0,.int .i64 0,.int .i64 0,.int .i64 0]) 25 ze_Plc rfl
 replace ge3:w.heap.size≤g3:=by rw[←ge3];exact bel.size
 refine E.opv hF (r_alloc hr) rfl rfl rfl rfl fun a hF=>?_
 clear hr
 replace bel:=below_to bel bb
 clear bb
 obtain⟨w5,hr,tu,on⟩:=stb_Plc (vs:=[.int .i64 (ppI (S) (anA (hd44 (S)))),.int .i64 (ppI (S) (anB (hd44 (S)))),.int .i64 (ppI (S) (anA (tl44 (S)))),.int .i64 (ppI (S) (anB (tl44 (S))))]) o3 rfl rfl (ocI (ocI (ocI (ocI oc0)))) (o:=0) rfl
 refine E.st hF (r_store (hF.at 0 rfl) (hF.at 2 rfl) (hr _ rfl)) rfl rfl fun a hF=>?_
 clear hr
 replace bel:=tu.below bel ge3
 clear tu
 replace o3:=on
 clear on
 refine E.opv hF (r_assign (hF.at 1 rfl)) rfl rfl rfl rfl fun a hF=>?_
 refine E.nil ?_
 refine wp_seq ?_
 refine E.seq ?_
 refine E.opv hF (r_move (hF.at 9 rfl)) rfl rfl rfl rfl fun a hF=>?_
 refine E.call hF (r_call Tryz.func7 en7.1 en7.2 (map1 (hF.at 0 rfl))) (rpparse_any (S) _ h8S (by first|omega|decide)) rfl rfl rfl rfl ?_
 rintro e w6 ⟨vv7,rfl,hh8,bb⟩
 refine⟨_,rfl,?_⟩
 intro a hF
 replace o3:=o3.below bb
 replace bel:=below_to bel bb
 clear bb
 obtain⟨b9x,ad9x,n9x,c9x,ae9x,m9x,d9x,b9y,ad9y,n9y,c9y,ae9y,m9y,d9y,rfl,hx9x,hx9y⟩:=RPx.shape hh8
 refine E.opv hF (r_move (hF.at 0 rfl)) rfl rfl rfl rfl fun a hF=>?_
 refine E.opv hF (r_extract (v:= .agg #[.bool b9x,.slice ad9x n9x c9x,.slice ae9x m9x d9x,.bool b9y,.slice ad9y n9y c9y,.slice ae9y m9y d9y]) (hF.at 0 rfl) rfl) rfl rfl rfl rfl fun a hF=>?_
 refine E.opv hF (r_extract (v:= .int .i64 (ppE (S))) (hF.at 1 rfl) rfl) rfl rfl rfl rfl fun a hF=>?_
 obtain⟨g5,w10,ge5,hr,bb,o5⟩:=own_alloc (P:=Tryz.prog) (w:=w6) (cs:=[.bool false,.slice none 0 0,.slice none 0 0,.bool false,.slice none 0 0,.slice none 0 0]) 36 ze_RPl rfl (niB (niS (niS (niB (niS (niS ni0))))))
 have ne3_5:g3≠g5:=by rw[←ge5];exact o3.ne_new
 replace ge5:w.heap.size≤g5:=by rw[←ge5];exact bel.size
 refine E.opv hF (r_alloc hr) rfl rfl rfl rfl fun a hF=>?_
 clear hr
 replace hx9x:=hx9x.below bb
 replace hx9y:=hx9y.below bb
 replace o3:=o3.below bb
 replace bel:=below_to bel bb
 clear bb
 obtain⟨w11,hr,tu,on⟩:=st_RPl (vs:=[.bool b9x,.slice ad9x n9x c9x,.slice ae9x m9x d9x,.bool b9y,.slice ad9y n9y c9y,.slice ae9y m9y d9y]) o5 rfl rfl (ocB (ocS (ocS (ocB (ocS (ocS oc0)))))) (niB (niS (niS (niB (niS (niS ni0)))))) (o:=0) rfl
 have kp:=tu.keep o5
 refine E.st hF (r_store (hF.at 0 rfl) (hF.at 2 rfl) (hr _ rfl)) rfl rfl fun a hF=>?_
 clear hr
 replace hx9x:=hx9x.keep kp
 replace hx9y:=hx9y.keep kp
 replace o3:=tu.blk o3 ne3_5
 replace bel:=tu.below bel ge5
 clear tu kp
 replace o5:=on
 clear on
 refine E.opv hF (r_assign (hF.at 1 rfl)) rfl rfl rfl rfl fun a hF=>?_
 refine E.nil ?_
 refine wp_seq ?_
 refine wp_seq ?_
 refine E.seq ?_
 refine E.opv hF (r_move (hF.at 7 rfl)) rfl rfl rfl rfl fun a hF=>?_
 refine E.opv hF (r_move (hF.at 1 rfl)) rfl rfl rfl rfl fun a hF=>?_
 refine E.opv hF (r_bin (hF.at 1 rfl) (hF.at 0 rfl) eg_scalar (bi_int (ic_neq (c:=false) (by simp)) (by simp))) rfl rfl rfl rfl fun a hF=>?_
 refine E.nil ?_
 refine wp_cond_false (hF.at 0 rfl) ?_
 refine wp_skip ?_
 refine E.norm ?_
 refine wp_seq ?_
 refine wp_seq ?_
 refine E.seq ?_
 refine E.opv hF (r_move (hF.at 3 rfl)) rfl rfl rfl rfl fun a hF=>?_
 by_cases hc12:ppE (S)≠0
 ·refine E.opv hF (r_bin (hF.at 0 rfl) ev_c eg_scalar (bi_int (ic_neq (c:=true) (dec_tt hc12)) (by simp))) rfl rfl rfl rfl fun a hF=>?_
  refine E.nil ?_
  refine wp_cond_true (hF.at 0 rfl) ?_
  refine wp_seq ?_
  refine E.seq ?_
  refine E.opv hF (r_load (hF.at 13 rfl) (ldb_Plc (vs:=[.int .i64 (ppI (S) (anA (hd44 (S)))),.int .i64 (ppI (S) (anB (hd44 (S)))),.int .i64 (ppI (S) (anA (tl44 (S)))),.int .i64 (ppI (S) (anB (tl44 (S))))]) o3 rfl rfl)) rfl rfl rfl rfl fun a hF=>?_
  refine E.opv hF (r_build (by simp) (bd_Plc_ _)) rfl rfl rfl rfl fun a hF=>?_
  refine E.opv hF (r_bin (hF.at 1 rfl) (hF.at 0 rfl) eg_Plc (es_Plc (dec_tt ⟨ppV_zero (by assumption) _,ppV_zero (by assumption) _,ppV_zero (by assumption) _,ppV_zero (by assumption) _⟩))) rfl rfl rfl rfl fun a hF=>?_
  refine E.opset (L':=[(2,.bool true),(28,.bool true),(27,.agg #[.int .i64 0,.int .i64 0,.int .i64 0,.int .i64 0]),(26,.agg #[.int .i64 (ppI (S) (anA (hd44 (S)))),.int .i64 (ppI (S) (anB (hd44 (S)))),.int .i64 (ppI (S) (anA (tl44 (S)))),.int .i64 (ppI (S) (anB (tl44 (S))))]),(25,.bool true),(24,.int .i64 (ppE (S))),(23,.bool false),(22,.int .i64 (ppE (S))),(21,.int .i64 (ppE (S))),(6,.int .i64 (ppE (S))),(5,.pointer (some ⟨g5,0,none⟩)),(20,.int .i64 (ppE (S))),(19,.agg #[.bool b9x,.slice ad9x n9x c9x,.slice ae9x m9x d9x,.bool b9y,.slice ad9y n9y c9y,.slice ae9y m9y d9y]),(16,.tuple #[.agg #[.bool b9x,.slice ad9x n9x c9x,.slice ae9x m9x d9x,.bool b9y,.slice ad9y n9y c9y,.slice ae9y m9y d9y],.int .i64 (ppE (S))]),(18,.tuple #[.agg #[.bool b9x,.slice ad9x n9x c9x,.slice ae9x m9x d9x,.bool b9y,.slice ad9y n9y c9y,.slice ae9y m9y d9y],.int .i64 (ppE (S))]),(17,.string (bstr S)),(4,.int .i64 (ppE (S))),(3,.pointer (some ⟨g3,0,none⟩)),(15,.int .i64 (ppE (S))),(14,.agg #[.int .i64 (ppI (S) (anA (hd44 (S)))),.int .i64 (ppI (S) (anB (hd44 (S)))),.int .i64 (ppI (S) (anA (tl44 (S)))),.int .i64 (ppI (S) (anB (tl44 (S))))]),(11,.tuple #[.agg #[.int .i64 (ppI (S) (anA (hd44 (S)))),.int .i64 (ppI (S) (anB (hd44 (S)))),.int .i64 (ppI (S) (anA (tl44 (S)))),.int .i64 (ppI (S) (anB (tl44 (S))))],.int .i64 (ppE (S))]),(13,.tuple #[.agg #[.int .i64 (ppI (S) (anA (hd44 (S)))),.int .i64 (ppI (S) (anB (hd44 (S)))),.int .i64 (ppI (S) (anA (tl44 (S)))),.int .i64 (ppI (S) (anB (tl44 (S))))],.int .i64 (ppE (S))]),(12,.string (bstr S)),(10,.bool false),(9,.bool true),(0,.string (bstr S)),(8,.string (bstr (List.take 40 (xs)))),(7,.string (bstr xs))]) hF (r_assign (hF.at 0 rfl)) rfl rfl rfl rfl fun a hF=>?_
  refine E.nil ?_
  refine wp_ret ?_
  refine bodyPost_ret (res_tmp Tryz.results3 (hF.at 0 rfl)) hF.dfr ?_
  exact⟨rfl,bel⟩
 ·refine E.opv hF (r_bin (hF.at 0 rfl) ev_c eg_scalar (bi_int (ic_neq (c:=false) (dec_ff hc12)) (by simp))) rfl rfl rfl rfl fun a hF=>?_
  refine E.nil ?_
  refine wp_cond_false (hF.at 0 rfl) ?_
  refine wp_skip ?_
  refine E.norm ?_
  refine wp_seq ?_
  have h0S:ppE S=0:=Classical.not_not.1 hc12
  have hy1:=hx9x.get h0S
  have hy2:=hx9y.get h0S
  refine E.drawn 33 mixed hF [29,30,31,32,33,34,35,36,37,38,39,40,41,42,43,44,45,46,47,48,49,50,51,52,53,54,55,56,57,58,59,60,61] [(fun _ v=>v= .agg #[.int .i64 (ppI (S) (anA (hd44 (S)))),.int .i64 (ppI (S) (anB (hd44 (S)))),.int .i64 (ppI (S) (anA (tl44 (S)))),.int .i64 (ppI (S) (anB (tl44 (S))))]),(fun _ v=>v= .int .i64 (plE (ppI (S) (anA (hd44 (S)))) (ppI (S) (anB (hd44 (S)))) (ppI (S) (anA (tl44 (S)))) (ppI (S) (anB (tl44 (S)))))),(fun _ v=>v= .bool true),(fun _ v=>v= .bool true),(fun _ v=>v= .agg #[.int .i64 (ppI (S) (anA (hd44 (S)))),.int .i64 (ppI (S) (anB (hd44 (S)))),.int .i64 (ppI (S) (anA (tl44 (S)))),.int .i64 (ppI (S) (anB (tl44 (S))))]),(fun w v=>Rq w v (((ppI (S) (anA (hd44 (S))):Int):Rat)/((ppI (S) (anB (hd44 (S))):Int):Rat))),(fun _ v=>v= .pointer (some ⟨g5,0,none⟩)),(fun _ v=>v= .agg #[.bool b9x,.slice ad9x n9x c9x,.slice ae9x m9x d9x]),(fun _ v=>v= .int .i64 0),(fun _ v=>v= .bool true),(fun _ v=>v= .bool true),(fun _ v=>v= .bool true),(fun _ v=>v= .agg #[.int .i64 (ppI (S) (anA (hd44 (S)))),.int .i64 (ppI (S) (anB (hd44 (S)))),.int .i64 (ppI (S) (anA (tl44 (S)))),.int .i64 (ppI (S) (anB (tl44 (S))))]),(fun w v=>Rq w v (((ppI (S) (anA (tl44 (S))):Int):Rat)/((ppI (S) (anB (tl44 (S))):Int):Rat))),(fun _ v=>v= .pointer (some ⟨g5,3,none⟩)),(fun _ v=>v= .agg #[.bool b9y,.slice ad9y n9y c9y,.slice ae9y m9y d9y]),(fun _ v=>v= .int .i64 0),(fun _ v=>v= .bool true),(fun _ v=>v= .bool true),(fun _ v=>v= .bool true),(fun _ v=>v= .pointer (some ⟨g3,0,none⟩)),(fun _ v=>v= .int .i64 (ppI (S) (anA (hd44 (S))))),(fun _ v=>v= .pointer (some ⟨g3,1,none⟩)),(fun _ v=>v= .int .i64 (ppI (S) (anB (hd44 (S))))),(fun w v=>Rq w v (((ppI (S) (anA (hd44 (S))):Int):Rat)/((ppI (S) (anB (hd44 (S))):Int):Rat))),(fun w v=>Wc w v (Rat.num (((ppI (S) (anA (hd44 (S))):Int):Rat)/((ppI (S) (anB (hd44 (S))):Int):Rat)))),(fun _ v=>v= .pointer (some ⟨g3,0,none⟩)),(fun _ v=>v= .int .i64 (ppI (S) (anA (hd44 (S))))),(fun w v=>Rq w v (((ppI (S) (anA (hd44 (S))):Int):Rat))),(fun w v=>Wc w v (Rat.num (((ppI (S) (anA (hd44 (S))):Int):Rat)))),(fun _ v=>v= .int .i64 (ci (Rat.num (((ppI (S) (anA (hd44 (S))):Int):Rat)/((ppI (S) (anB (hd44 (S))):Int):Rat))) (Rat.num (((ppI (S) (anA (hd44 (S))):Int):Rat))))),(fun _ v=>v= .bool true),(fun _ v=>v= .bool true)] [] (by decide+kernel) (by decide+kernel) rfl rfl rfl ⟨(Mb.eq _),(Mb.eq _),(Mb.eq _),(Mb.eq _),(Mb.eq _),(fun _ _ _ h hb=>h.below hb),(Mb.eq _),(Mb.eq _),(Mb.eq _),(Mb.eq _),(Mb.eq _),(Mb.eq _),(Mb.eq _),(fun _ _ _ h hb=>h.below hb),(Mb.eq _),(Mb.eq _),(Mb.eq _),(Mb.eq _),(Mb.eq _),(Mb.eq _),(Mb.eq _),(Mb.eq _),(Mb.eq _),(Mb.eq _),(fun _ _ _ h hb=>h.below hb),(fun _ _ _ h hb=>h.below hb),(Mb.eq _),(Mb.eq _),(fun _ _ _ h hb=>h.below hb),(fun _ _ _ h hb=>h.below hb),(Mb.eq _),(Mb.eq _),(Mb.eq _),trivial⟩ trivial ⟨?_,?_,?_,?_,?_,?_,?_,?_,?_,?_,?_,?_,?_,?_,?_,?_,?_,?_,?_,?_,?_,?_,?_,?_,?_,?_,?_,?_,?_,?_,?_,?_,?_,trivial⟩ ?_
  ·intro a' w' hF' hb hd
   exact dv0 (r_load (hF'.at 13 rfl) (ldb_Plc (vs:=[.int .i64 (ppI (S) (anA (hd44 (S)))),.int .i64 (ppI (S) (anB (hd44 (S)))),.int .i64 (ppI (S) (anA (tl44 (S)))),.int .i64 (ppI (S) (anB (tl44 (S))))]) (o3.below hb) rfl rfl)) rfl rfl rfl
  ·intro a' w' hF' hb hd
   have e29:=sHe hd 0 29 rfl rfl rfl rfl
   exact dcx0 (r_call Tryz.func8 en8.1 en8.2 (map1 e29)) (pCheck_any (ppI (S) (anA (hd44 (S)))) (ppI (S) (anB (hd44 (S)))) (ppI (S) (anA (tl44 (S)))) (ppI (S) (anB (tl44 (S)))) _) (fun _=>rfl) rfl rfl
  ·intro a' w' hF' hb hd
   have e30:=sHe hd 0 30 rfl rfl rfl rfl
   exact dv0 (r_bin e30 ev_c eg_scalar (bi_int (ic_eql (c:=true) (dec_tt (pp_check h0S))) (by simp))) rfl rfl rfl
  ·intro a' w' hF' hb hd
   have e31:=sHe hd 0 31 rfl rfl rfl rfl
   exact dv0 (r_move e31) rfl rfl rfl
  ·intro a' w' hF' hb hd
   have e32:=sHe hd 0 32 rfl rfl rfl rfl
   exact dv1 (wanted_by rfl rfl e32 rfl) (r_load (hF'.at 13 rfl) (ldb_Plc (vs:=[.int .i64 (ppI (S) (anA (hd44 (S)))),.int .i64 (ppI (S) (anB (hd44 (S)))),.int .i64 (ppI (S) (anA (tl44 (S)))),.int .i64 (ppI (S) (anB (tl44 (S))))]) (o3.below hb) rfl rfl)) rfl rfl
  ·intro a' w' hF' hb hd
   have e32:=sHe hd 1 32 rfl rfl rfl rfl
   have e33:=sHe hd 0 33 rfl rfl rfl rfl
   exact dc1 (wanted_by rfl rfl e32 rfl) (r_call Tryz.func10 en10.1 en10.2 (map1 e33)) (pLatitude_any (ppI (S) (anA (hd44 (S)))) (ppI (S) (anB (hd44 (S)))) (ppI (S) (anA (tl44 (S)))) (ppI (S) (anB (tl44 (S)))) _ (by omega) (by omega) (by omega) (by omega)) rfl
  ·intro a' w' hF' hb hd
   have e32:=sHe hd 0 32 rfl rfl rfl rfl
   exact dv1 (wanted_by rfl rfl e32 rfl) (r_field (hF'.at 6 rfl) (fa_RPl_0 (p:=0) rfl)) rfl rfl
  ·intro a' w' hF' hb hd
   have e32:=sHe hd 1 32 rfl rfl rfl rfl
   have e35:=sHe hd 0 35 rfl rfl rfl rfl
   exact dv1 (wanted_by rfl rfl e32 rfl) (r_load e35 (ld_RRat (vs:=[.bool b9x,.slice ad9x n9x c9x,.slice ae9x m9x d9x]) (o5.below hb) rfl rfl)) rfl rfl
  ·intro a' w' hF' hb hd
   have e32:=sHe hd 3 32 rfl rfl rfl rfl
   obtain⟨v34_0,e34,h34_1⟩:=sH hd 0 34 rfl rfl rfl rfl
   have e36:=sHe hd 1 36 rfl rfl rfl rfl
   exact dcx1 (wanted_by rfl rfl e32 rfl) (r_call Tryz.func9 en9.1 en9.2 (map2 e34 e36)) (Is5_any _ _ _ _ 2 110 _ h34_1 (hy1.below hb) (lim64q (n:=ppI (S) (anA (hd44 (S)))) (d:=ppI (S) (anB (hd44 (S)))) (by omega) (by omega) (by omega) (by omega)) (pp_cz1 h0S) (by omega) (by omega)) (fun _=>rfl) rfl
  ·intro a' w' hF' hb hd
   have e32:=sHe hd 1 32 rfl rfl rfl rfl
   have e37:=sHe hd 0 37 rfl rfl rfl rfl
   exact dv1 (wanted_by rfl rfl e32 rfl) (r_bin e37 ev_c eg_scalar (bi_int (ic_eql (c:=true) (by decide)) (by simp))) rfl rfl
  ·intro a' w' hF' hb hd
   have e32:=sHe hd 0 32 rfl rfl rfl rfl
   have e38:=sHe hd 1 38 rfl rfl rfl rfl
   exact dv0 (r_pick_t e32 e38) rfl rfl rfl
  ·intro a' w' hF' hb hd
   have e39:=sHe hd 0 39 rfl rfl rfl rfl
   exact dv0 (r_move e39) rfl rfl rfl
  ·intro a' w' hF' hb hd
   have e40:=sHe hd 0 40 rfl rfl rfl rfl
   exact dv1 (wanted_by rfl rfl e40 rfl) (r_load (hF'.at 13 rfl) (ldb_Plc (vs:=[.int .i64 (ppI (S) (anA (hd44 (S)))),.int .i64 (ppI (S) (anB (hd44 (S)))),.int .i64 (ppI (S) (anA (tl44 (S)))),.int .i64 (ppI (S) (anB (tl44 (S))))]) (o3.below hb) rfl rfl)) rfl rfl
  ·intro a' w' hF' hb hd
   have e40:=sHe hd 1 40 rfl rfl rfl rfl
   have e41:=sHe hd 0 41 rfl rfl rfl rfl
   exact dc1 (wanted_by rfl rfl e40 rfl) (r_call Tryz.func11 en11.1 en11.2 (map1 e41)) (pLongitude_any (ppI (S) (anA (hd44 (S)))) (ppI (S) (anB (hd44 (S)))) (ppI (S) (anA (tl44 (S)))) (ppI (S) (anB (tl44 (S)))) _ (by omega) (by omega) (by omega) (by omega)) rfl
  ·intro a' w' hF' hb hd
   have e40:=sHe hd 0 40 rfl rfl rfl rfl
   exact dv1 (wanted_by rfl rfl e40 rfl) (r_field (hF'.at 6 rfl) (fa_RPl_1 (p:=3) rfl)) rfl rfl
  ·intro a' w' hF' hb hd
   have e40:=sHe hd 1 40 rfl rfl rfl rfl
   have e43:=sHe hd 0 43 rfl rfl rfl rfl
   exact dv1 (wanted_by rfl rfl e40 rfl) (r_load e43 (ld_RRat (vs:=[.bool b9y,.slice ad9y n9y c9y,.slice ae9y m9y d9y]) (o5.below hb) rfl rfl)) rfl rfl
  ·intro a' w' hF' hb hd
   have e40:=sHe hd 3 40 rfl rfl rfl rfl
   obtain⟨v42_0,e42,h42_1⟩:=sH hd 0 42 rfl rfl rfl rfl
   have e44:=sHe hd 1 44 rfl rfl rfl rfl
   exact dcx1 (wanted_by rfl rfl e40 rfl) (r_call Tryz.func9 en9.1 en9.2 (map2 e42 e44)) (Is5_any _ _ _ _ 2 110 _ h42_1 (hy2.below hb) (lim64q (n:=ppI (S) (anA (tl44 (S)))) (d:=ppI (S) (anB (tl44 (S)))) (by omega) (by omega) (by omega) (by omega)) (pp_cz2 h0S) (by omega) (by omega)) (fun _=>rfl) rfl
  ·intro a' w' hF' hb hd
   have e40:=sHe hd 1 40 rfl rfl rfl rfl
   have e45:=sHe hd 0 45 rfl rfl rfl rfl
   exact dv1 (wanted_by rfl rfl e40 rfl) (r_bin e45 ev_c eg_scalar (bi_int (ic_eql (c:=true) (by decide)) (by simp))) rfl rfl
  ·intro a' w' hF' hb hd
   have e40:=sHe hd 0 40 rfl rfl rfl rfl
   have e46:=sHe hd 1 46 rfl rfl rfl rfl
   exact dv0 (r_pick_t e40 e46) rfl rfl rfl
  ·intro a' w' hF' hb hd
   have e47:=sHe hd 0 47 rfl rfl rfl rfl
   exact dv0 (r_move e47) rfl rfl rfl
  ·intro a' w' hF' hb hd
   have e48:=sHe hd 0 48 rfl rfl rfl rfl
   exact dv1 (wanted_by rfl rfl e48 rfl) (r_field (hF'.at 13 rfl) (fa_Plc_0 (p:=0) rfl)) rfl rfl
  ·intro a' w' hF' hb hd
   have e48:=sHe hd 1 48 rfl rfl rfl rfl
   have e49:=sHe hd 0 49 rfl rfl rfl rfl
   exact dv1 (wanted_by rfl rfl e48 rfl) (r_load e49 (ldb_i64 (v:= .int .i64 (ppI (S) (anA (hd44 (S))))) (o3.below hb) rfl)) rfl rfl
  ·intro a' w' hF' hb hd
   have e48:=sHe hd 0 48 rfl rfl rfl rfl
   exact dv1 (wanted_by rfl rfl e48 rfl) (r_field (hF'.at 13 rfl) (fa_Plc_1 (p:=1) rfl)) rfl rfl
  ·intro a' w' hF' hb hd
   have e48:=sHe hd 1 48 rfl rfl rfl rfl
   have e51:=sHe hd 0 51 rfl rfl rfl rfl
   exact dv1 (wanted_by rfl rfl e48 rfl) (r_load e51 (ldb_i64 (v:= .int .i64 (ppI (S) (anB (hd44 (S))))) (o3.below hb) rfl)) rfl rfl
  ·intro a' w' hF' hb hd
   have e48:=sHe hd 2 48 rfl rfl rfl rfl
   have e50:=sHe hd 0 50 rfl rfl rfl rfl
   have e52:=sHe hd 1 52 rfl rfl rfl rfl
   exact dc1 (wanted_by rfl rfl e48 rfl) (r_call Tryz.func12 en12.1 en12.2 (map2 e50 e52)) (rOf2_any (ppI (S) (anA (hd44 (S)))) (ppI (S) (anB (hd44 (S)))) _ (by omega) (by omega) (by omega) (by omega)) rfl
  ·intro a' w' hF' hb hd
   have e48:=sHe hd 2 48 rfl rfl rfl rfl
   obtain⟨v53_0,e53,h53_1⟩:=sH hd 0 53 rfl rfl rfl rfl
   exact dc1 (wanted_by rfl rfl e48 rfl) (r_call Tryz.func13 en13.1 en13.2 (map1 e53)) (rnum_any _ _ _ h53_1) rfl
  ·intro a' w' hF' hb hd
   have e48:=sHe hd 0 48 rfl rfl rfl rfl
   exact dv1 (wanted_by rfl rfl e48 rfl) (r_field (hF'.at 13 rfl) (fa_Plc_0 (p:=0) rfl)) rfl rfl
  ·intro a' w' hF' hb hd
   have e48:=sHe hd 1 48 rfl rfl rfl rfl
   have e55:=sHe hd 0 55 rfl rfl rfl rfl
   exact dv1 (wanted_by rfl rfl e48 rfl) (r_load e55 (ldb_i64 (v:= .int .i64 (ppI (S) (anA (hd44 (S))))) (o3.below hb) rfl)) rfl rfl
  ·intro a' w' hF' hb hd
   have e48:=sHe hd 2 48 rfl rfl rfl rfl
   have e56:=sHe hd 0 56 rfl rfl rfl rfl
   exact dc1 (wanted_by rfl rfl e48 rfl) (r_call Tryz.func15 en15.1 en15.2 (map1 e56)) (rWhole_any (ppI (S) (anA (hd44 (S)))) _ (by omega) (by omega)) rfl
  ·intro a' w' hF' hb hd
   have e48:=sHe hd 2 48 rfl rfl rfl rfl
   obtain⟨v57_0,e57,h57_1⟩:=sH hd 0 57 rfl rfl rfl rfl
   exact dc1 (wanted_by rfl rfl e48 rfl) (r_call Tryz.func13 en13.1 en13.2 (map1 e57)) (rnum_any _ _ _ h57_1) rfl
  ·intro a' w' hF' hb hd
   have e48:=sHe hd 3 48 rfl rfl rfl rfl
   obtain⟨v54_0,e54,h54_1⟩:=sH hd 0 54 rfl rfl rfl rfl
   obtain⟨v58_0,e58,h58_1⟩:=sH hd 1 58 rfl rfl rfl rfl
   exact dcx1 (wanted_by rfl rfl e48 rfl) (r_call Tryz.func14 en14.1 en14.2 (map2 e54 e58)) (whCmp_any _ _ _ _ _ (Wc.wz h54_1) (Wc.wz h58_1)) (fun _=>rfl) rfl
  ·intro a' w' hF' hb hd
   have e48:=sHe hd 1 48 rfl rfl rfl rfl
   have e59:=sHe hd 0 59 rfl rfl rfl rfl
   exact dv1 (wanted_by rfl rfl e48 rfl) (r_bin e59 ev_c eg_scalar (bi_int (ic_eql (c:=true) (dec_tt (ci_same (pp_low h0S)))) (by simp))) rfl rfl
  ·intro a' w' hF' hb hd
   have e48:=sHe hd 0 48 rfl rfl rfl rfl
   have e60:=sHe hd 1 60 rfl rfl rfl rfl
   exact dv0 (r_pick_t e48 e60) rfl rfl rfl
  intro a w13 hF bb hall hne
  have e61:=sSe hall 32 61 rfl rfl
  clear hall hne
  replace bel:=below_to bel bb
  clear bb
  replace hF:=hF.add e61
  clear e61
  refine E.opset (L':=[(2,.bool true),(61,.bool true),(25,.bool false),(24,.int .i64 (ppE (S))),(23,.bool false),(22,.int .i64 (ppE (S))),(21,.int .i64 (ppE (S))),(6,.int .i64 (ppE (S))),(5,.pointer (some ⟨g5,0,none⟩)),(20,.int .i64 (ppE (S))),(19,.agg #[.bool b9x,.slice ad9x n9x c9x,.slice ae9x m9x d9x,.bool b9y,.slice ad9y n9y c9y,.slice ae9y m9y d9y]),(16,.tuple #[.agg #[.bool b9x,.slice ad9x n9x c9x,.slice ae9x m9x d9x,.bool b9y,.slice ad9y n9y c9y,.slice ae9y m9y d9y],.int .i64 (ppE (S))]),(18,.tuple #[.agg #[.bool b9x,.slice ad9x n9x c9x,.slice ae9x m9x d9x,.bool b9y,.slice ad9y n9y c9y,.slice ae9y m9y d9y],.int .i64 (ppE (S))]),(17,.string (bstr S)),(4,.int .i64 (ppE (S))),(3,.pointer (some ⟨g3,0,none⟩)),(15,.int .i64 (ppE (S))),(14,.agg #[.int .i64 (ppI (S) (anA (hd44 (S)))),.int .i64 (ppI (S) (anB (hd44 (S)))),.int .i64 (ppI (S) (anA (tl44 (S)))),.int .i64 (ppI (S) (anB (tl44 (S))))]),(11,.tuple #[.agg #[.int .i64 (ppI (S) (anA (hd44 (S)))),.int .i64 (ppI (S) (anB (hd44 (S)))),.int .i64 (ppI (S) (anA (tl44 (S)))),.int .i64 (ppI (S) (anB (tl44 (S))))],.int .i64 (ppE (S))]),(13,.tuple #[.agg #[.int .i64 (ppI (S) (anA (hd44 (S)))),.int .i64 (ppI (S) (anB (hd44 (S)))),.int .i64 (ppI (S) (anA (tl44 (S)))),.int .i64 (ppI (S) (anB (tl44 (S))))],.int .i64 (ppE (S))]),(12,.string (bstr S)),(10,.bool false),(9,.bool true),(0,.string (bstr S)),(8,.string (bstr (List.take 40 (xs)))),(7,.string (bstr xs))]) hF (r_assign (hF.at 0 rfl)) rfl rfl rfl rfl fun a hF=>?_
  refine E.nil ?_
  refine wp_ret ?_
  refine bodyPost_ret (res_tmp Tryz.results3 (hF.at 0 rfl)) hF.dfr ?_
  exact⟨rfl,bel⟩
end Go.Proofs.YtpkhdajnppoinaaGreat
