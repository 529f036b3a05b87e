import Derived.Test.YtdkmjclbhfnegaaDoorKA27
import Derived.Test.YtdkmjclbhfnegaaDoorKA30
namespace Go.Proofs.YtdkmjclbhfnegaaDoor
open Go.RowKit
set_option maxRecDepth 100000
set_option linter.unusedVariables false
set_option maxHeartbeats 8000000
theorem rSplit27_any (xs:List Nat) (L:List (List Nat)) (w:World) (h8:okb 256 xs) (hx:xs.length≤1000) (hL:spB [] [] xs=L):
 Calls Tryd.prog 14 #[.string (bstr xs)] w (fun e w'=>∃ad cap,e= .returned (.slice ad L.length cap)∧AccU w' 1 9 w.heap.size (.slice ad L.length cap) L.length (strC L)∧Below w.heap.size w w'):=by
 have st:=St.start w
 refine E.enter (nt:=32) (L:=[(0,.string (bstr xs))]) Tryd.func14 rfl rfl rfl (args_cons (i:=0) rfl args_nil) ?_
 intro a hF
 refine wp_seq ?_
 refine E.seq ?_
 refine E.opv hF (r_assign ev_c) rfl rfl rfl rfl fun a hF=>?_
 refine E.nil ?_
 refine wp_seq ?_
 refine E.seq ?_
 obtain⟨glu1,w2,ge,hr,bb,hpa⟩:=bsU0_t w w.heap.size st.bel.size
 refine E.opv hF (r_buildSlice (by simp) hr) rfl rfl rfl rfl fun a hF=>?_
 replace st:=(st.to bb).grow0 hpa AccU.gc AccU.gl (st.gnew ge)
 clear hr bb hpa ge
 refine E.opv hF (r_assign (hF.at 0 rfl)) rfl rfl rfl rfl fun a hF=>?_
 refine E.nil ?_
 refine wp_seq ?_
 refine E.seq ?_
 refine E.opv hF (r_assign ev_c) rfl rfl rfl rfl fun a hF=>?_
 refine E.nil ?_
 refine wp_seq ?_
 refine wp_seq ?_
 refine E.seq ?_
 refine E.opv hF (r_assign ev_c) rfl rfl rfl rfl fun a hF=>?_
 refine E.nil ?_
 refine wp_block ?_
 refine E.loop (fun mq a wv=>∃(i:Nat) (n:Nat) (la:Option Addr) (lc:Nat) (out:List (List Nat)) (wd:List Nat),i≤xs.length∧n=out.length∧n≤i∧wd.length≤i∧spB out wd (xs.drop i)=L∧Fr 32 a [(5,.int .i64 ((i:Nat):Int)),(4,.string (bstr (wd))),(3,.slice la n lc),(2,.slice none 0 0),(0,.string (bstr xs))]∧Sg w wv [] [] (.slice la n lc) (fun wx=>AccU wx 1 9 w.heap.size (.slice la n lc) n (strC out))∧mq=xs.length-i) ((xs.length-0)) ?_ ?_
 ·exact⟨0,0,(some ⟨glu1,0,none⟩),0,[],[],(Nat.zero_le _),rfl,(Nat.le_refl _),(Nat.le_refl _),hL,Fr.pick (L':=[(5,.int .i64 ((0:Nat):Int)),(4,.string (bstr [])),(3,.slice (some ⟨glu1,0,none⟩) 0 0),(2,.slice none 0 0),(0,.string (bstr xs))]) hF [0,1,2,4,5] rfl,((st.pick [] [] rfl rfl (by decide)).cast rfl),rfl⟩
 ·rintro mq a w3 ⟨i,n,la,lc,out,wd,hi,hn,hni,hwi,hs,hF,st,hm⟩
  by_cases hlt:i<xs.length
  ·refine wp_seq ?_
   refine wp_seq ?_
   refine E.seq ?_
   refine E.opv hF (r_move (hF.at 0 rfl)) rfl rfl rfl rfl fun a hF=>?_
   refine E.opv hF (r_move (hF.at 5 rfl)) rfl rfl rfl rfl fun a hF=>?_
   refine E.opv hF (r_builtin (map1 (hF.at 0 rfl)) (bl_str Tryd.underlying9)) rfl rfl rfl rfl fun a hF=>?_
   refine E.opv hF (r_bin (hF.at 2 rfl) (hF.at 0 rfl) eg_scalar (bi_int (ic_lss (c:=true) (dec_tt (by omega))) (by simp))) rfl rfl rfl rfl fun a hF=>?_
   refine E.nil ?_
   refine wp_cond_true (hF.at 0 rfl) ?_
   refine wp_skip ?_
   refine E.norm ?_
   refine wp_seq ?_
   refine wp_block ?_
   refine wp_seq ?_
   refine E.seq ?_
   refine E.opv hF (r_move (hF.at 8 rfl)) rfl rfl rfl rfl fun a hF=>?_
   refine E.opv hF (r_move (hF.at 5 rfl)) rfl rfl rfl rfl fun a hF=>?_
   refine E.opv hF (r_ixw (hF.at 1 rfl) (hF.at 0 rfl) (ixs2 (xs:=xs) (j:=i) Tryd.underlying9 (by omega) (by omega) h8)) rfl rfl rfl rfl fun a hF=>?_
   by_cases hc4:lg xs i=32
   ·refine E.opv hF (r_bin (hF.at 0 rfl) ev_c eg_scalar (bi_int (ic_neq (c:=false) (dec_ff (by omega))) (by simp))) rfl rfl rfl rfl fun a hF=>?_
    refine E.nil ?_
    refine wp_cond_false (hF.at 0 rfl) ?_
    refine wp_seq ?_
    refine E.seq ?_
    refine E.opv hF (r_move (hF.at 10 rfl)) rfl rfl rfl rfl fun a hF=>?_
    refine E.opv hF (r_move (hF.at 10 rfl)) rfl rfl rfl rfl fun a hF=>?_
    obtain⟨glu5,w6,hr,ge,bb,hbk⟩:=bsL_t w3 (bstr (wd))
    refine E.opv hF (r_buildSlice (pair1 (hF.at 0 rfl)) hr) rfl rfl rfl rfl fun a hF=>?_
    replace st:=st.new ge bb hbk
    clear hr bb hbk ge
    obtain⟨lau7,lcu7,w8,hr,hpa,gg,bb,ku,hne⟩:=putU_t st.g (st.bk 0 rfl) (by omega) st.bel.size
    refine E.opv hF (r_builtin (map2 (hF.at 2 rfl) (hF.at 0 rfl)) hr) rfl rfl rfl rfl fun a hF=>?_
    replace st:=st.grow gg bb ku clU0 hpa AccU.gc AccU.gl hne
    clear hr gg bb ku hne hpa
    refine E.opset (L':=[(3,.slice lau7 (n+1) lcu7),(27,.slice lau7 (n+1) lcu7),(26,.slice (some ⟨glu5,0,none⟩) 1 1),(25,.string (bstr (wd))),(24,.slice la n lc),(16,.bool false),(15,.int .u8 ((lg xs i:Nat):Int)),(14,.int .i64 ((i:Nat):Int)),(13,.string (bstr xs)),(10,.bool true),(9,.int .i64 ((List.length (xs):Nat):Int)),(8,.string (bstr xs)),(7,.int .i64 ((i:Nat):Int)),(5,.int .i64 ((i:Nat):Int)),(4,.string (bstr (wd))),(2,.slice none 0 0),(0,.string (bstr xs))]) hF (r_assign (hF.at 0 rfl)) rfl rfl rfl rfl fun a hF=>?_
    refine E.nil ?_
    refine E.seq ?_
    refine E.opset (L':=[(4,.string (bstr [])),(3,.slice lau7 (n+1) lcu7),(27,.slice lau7 (n+1) lcu7),(26,.slice (some ⟨glu5,0,none⟩) 1 1),(25,.string (bstr (wd))),(24,.slice la n lc),(16,.bool false),(15,.int .u8 ((lg xs i:Nat):Int)),(14,.int .i64 ((i:Nat):Int)),(13,.string (bstr xs)),(10,.bool true),(9,.int .i64 ((List.length (xs):Nat):Int)),(8,.string (bstr xs)),(7,.int .i64 ((i:Nat):Int)),(5,.int .i64 ((i:Nat):Int)),(2,.slice none 0 0),(0,.string (bstr xs))]) hF (r_assign ev_c) rfl rfl rfl rfl fun a hF=>?_
    refine E.nil0 ?_
    refine E.blk ?_
    refine E.norm ?_
    refine E.seq ?_
    refine E.opv hF (r_move (hF.at 14 rfl)) rfl rfl rfl rfl fun a hF=>?_
    refine E.opv hF (r_bin (hF.at 0 rfl) ev_c eg_scalar (ia_add (by omega) (by omega))) rfl rfl rfl rfl fun a hF=>?_
    refine E.opset (L':=[(5,.int .i64 (((i:Nat):Int)+1)),(12,.int .i64 (((i:Nat):Int)+1)),(11,.int .i64 ((i:Nat):Int)),(4,.string (bstr [])),(3,.slice lau7 (n+1) lcu7),(27,.slice lau7 (n+1) lcu7),(26,.slice (some ⟨glu5,0,none⟩) 1 1),(25,.string (bstr (wd))),(24,.slice la n lc),(16,.bool false),(15,.int .u8 ((lg xs i:Nat):Int)),(14,.int .i64 ((i:Nat):Int)),(13,.string (bstr xs)),(10,.bool true),(9,.int .i64 ((List.length (xs):Nat):Int)),(8,.string (bstr xs)),(7,.int .i64 ((i:Nat):Int)),(2,.slice none 0 0),(0,.string (bstr xs))]) hF (r_assign (hF.at 0 rfl)) rfl rfl rfl rfl fun a hF=>?_
    refine E.nil0 ?_
    refine E.norm ?_
    replace hF:Fr 32 a [(5,.int .i64 ((i+1:Nat):Int)),(12,.int .i64 (((i:Nat):Int)+1)),(11,.int .i64 ((i:Nat):Int)),(4,.string (bstr [])),(3,.slice lau7 (n+1) lcu7),(27,.slice lau7 (n+1) lcu7),(26,.slice (some ⟨glu5,0,none⟩) 1 1),(25,.string (bstr (wd))),(24,.slice la n lc),(16,.bool false),(15,.int .u8 ((lg xs i:Nat):Int)),(14,.int .i64 ((i:Nat):Int)),(13,.string (bstr xs)),(10,.bool true),(9,.int .i64 ((List.length (xs):Nat):Int)),(8,.string (bstr xs)),(7,.int .i64 ((i:Nat):Int)),(2,.slice none 0 0),(0,.string (bstr xs))]:=by rw[show((i+1:Nat):Int)=((i:Nat):Int)+1 by omega];exact hF
    exact⟨(xs.length-(i+1)),by omega,⟨(i+1),(n+1),lau7,lcu7,(out++[wd]),[],(by omega),(by rw[List.length_append,←hn];rfl),(by omega),(by simp),(by have e:=spB_at (out:=out) (word:=wd) (xs:=xs) (i:=i) (by omega);rw[if_pos hc4] at e;rw[←e];exact hs),Fr.pick (L':=[(5,.int .i64 ((i+1:Nat):Int)),(4,.string (bstr [])),(3,.slice lau7 (n+1) lcu7),(2,.slice none 0 0),(0,.string (bstr xs))]) hF [0,3,4,17,18] rfl,((st.pick [] [] rfl rfl (by decide)).cast (by rw[strC_app];rfl)),rfl⟩⟩
   ·refine E.opv hF (r_bin (hF.at 0 rfl) ev_c eg_scalar (bi_int (ic_neq (c:=true) (dec_tt (by omega))) (by simp))) rfl rfl rfl rfl fun a hF=>?_
    refine E.nil ?_
    refine wp_cond_true (hF.at 0 rfl) ?_
    refine E.seq ?_
    refine E.opv hF (r_move (hF.at 9 rfl)) rfl rfl rfl rfl fun a hF=>?_
    refine E.opv hF (r_move (hF.at 13 rfl)) rfl rfl rfl rfl fun a hF=>?_
    refine E.opv hF (r_move (hF.at 10 rfl)) rfl rfl rfl rfl fun a hF=>?_
    refine E.opv hF (r_move (hF.at 11 rfl)) rfl rfl rfl rfl fun a hF=>?_
    refine E.opv hF (r_bin (hF.at 0 rfl) ev_c eg_scalar (ia_add (by omega) (by omega))) rfl rfl rfl rfl fun a hF=>?_
    refine E.opv hF (r_slice2 (hF.at 3 rfl) (hF.at 2 rfl) (hF.at 0 rfl) (sls_1 (xs:=xs) (i:=i) Tryd.underlying9 (by omega) (by omega) (by omega))) rfl rfl rfl rfl fun a hF=>?_
    refine E.opv hF (r_bin (hF.at 5 rfl) (hF.at 0 rfl) eg_str (sb_add (xs:=(wd)) (ys:=([lg xs i])) (by simp only [List.length_singleton];omega))) rfl rfl rfl rfl fun a hF=>?_
    refine E.opset (L':=[(4,.string (bstr ((wd)++([lg xs i])))),(23,.string (bstr ((wd)++([lg xs i])))),(22,.string (bstr ([lg xs i]))),(21,.int .i64 (((i:Nat):Int)+1)),(20,.int .i64 ((i:Nat):Int)),(19,.int .i64 ((i:Nat):Int)),(18,.string (bstr xs)),(17,.string (bstr (wd))),(16,.bool true),(15,.int .u8 ((lg xs i:Nat):Int)),(14,.int .i64 ((i:Nat):Int)),(13,.string (bstr xs)),(10,.bool true),(9,.int .i64 ((List.length (xs):Nat):Int)),(8,.string (bstr xs)),(7,.int .i64 ((i:Nat):Int)),(5,.int .i64 ((i:Nat):Int)),(3,.slice la n lc),(2,.slice none 0 0),(0,.string (bstr xs))]) hF (r_assign (hF.at 0 rfl)) rfl rfl rfl rfl fun a hF=>?_
    refine E.nil0 ?_
    refine E.blk ?_
    refine E.norm ?_
    refine E.seq ?_
    refine E.opv hF (r_move (hF.at 16 rfl)) rfl rfl rfl rfl fun a hF=>?_
    refine E.opv hF (r_bin (hF.at 0 rfl) ev_c eg_scalar (ia_add (by omega) (by omega))) rfl rfl rfl rfl fun a hF=>?_
    refine E.opset (L':=[(5,.int .i64 (((i:Nat):Int)+1)),(12,.int .i64 (((i:Nat):Int)+1)),(11,.int .i64 ((i:Nat):Int)),(4,.string (bstr ((wd)++([lg xs i])))),(23,.string (bstr ((wd)++([lg xs i])))),(22,.string (bstr ([lg xs i]))),(21,.int .i64 (((i:Nat):Int)+1)),(20,.int .i64 ((i:Nat):Int)),(19,.int .i64 ((i:Nat):Int)),(18,.string (bstr xs)),(17,.string (bstr (wd))),(16,.bool true),(15,.int .u8 ((lg xs i:Nat):Int)),(14,.int .i64 ((i:Nat):Int)),(13,.string (bstr xs)),(10,.bool true),(9,.int .i64 ((List.length (xs):Nat):Int)),(8,.string (bstr xs)),(7,.int .i64 ((i:Nat):Int)),(3,.slice la n lc),(2,.slice none 0 0),(0,.string (bstr xs))]) hF (r_assign (hF.at 0 rfl)) rfl rfl rfl rfl fun a hF=>?_
    refine E.nil0 ?_
    refine E.norm ?_
    replace hF:Fr 32 a [(5,.int .i64 ((i+1:Nat):Int)),(12,.int .i64 (((i:Nat):Int)+1)),(11,.int .i64 ((i:Nat):Int)),(4,.string (bstr ((wd)++([lg xs i])))),(23,.string (bstr ((wd)++([lg xs i])))),(22,.string (bstr ([lg xs i]))),(21,.int .i64 (((i:Nat):Int)+1)),(20,.int .i64 ((i:Nat):Int)),(19,.int .i64 ((i:Nat):Int)),(18,.string (bstr xs)),(17,.string (bstr (wd))),(16,.bool true),(15,.int .u8 ((lg xs i:Nat):Int)),(14,.int .i64 ((i:Nat):Int)),(13,.string (bstr xs)),(10,.bool true),(9,.int .i64 ((List.length (xs):Nat):Int)),(8,.string (bstr xs)),(7,.int .i64 ((i:Nat):Int)),(3,.slice la n lc),(2,.slice none 0 0),(0,.string (bstr xs))]:=by rw[show((i+1:Nat):Int)=((i:Nat):Int)+1 by omega];exact hF
    exact⟨(xs.length-(i+1)),by omega,⟨(i+1),n,la,lc,out,(wd++[lg xs i]),(by omega),hn,(by omega),(by rw[List.length_append,List.length_singleton];omega),(by have e:=spB_at (out:=out) (word:=wd) (xs:=xs) (i:=i) (by omega);rw[if_neg hc4] at e;rw[←e];exact hs),Fr.pick (L':=[(5,.int .i64 ((i+1:Nat):Int)),(4,.string (bstr ((wd)++([lg xs i])))),(3,.slice la n lc),(2,.slice none 0 0),(0,.string (bstr xs))]) hF [0,3,19,20,21] rfl,((st.pick [] [] rfl rfl (by decide)).cast rfl),rfl⟩⟩
  ·refine wp_seq ?_
   refine wp_seq ?_
   refine E.seq ?_
   refine E.opv hF (r_move (hF.at 0 rfl)) rfl rfl rfl rfl fun a hF=>?_
   refine E.opv hF (r_move (hF.at 5 rfl)) rfl rfl rfl rfl fun a hF=>?_
   refine E.opv hF (r_builtin (map1 (hF.at 0 rfl)) (bl_str Tryd.underlying9)) rfl rfl rfl rfl fun a hF=>?_
   refine E.opv hF (r_bin (hF.at 2 rfl) (hF.at 0 rfl) eg_scalar (bi_int (ic_lss (c:=false) (dec_ff (by omega))) (by simp))) rfl rfl rfl rfl fun a hF=>?_
   refine E.nil ?_
   refine wp_cond_false (hF.at 0 rfl) ?_
   refine wp_exit ?_
   refine E.past ?_
   refine E.past ?_
   refine E.out (id:=0) ?_
   refine E.norm ?_
   refine wp_seq ?_
   refine E.seq ?_
   refine E.opv hF (r_move (hF.at 6 rfl)) rfl rfl rfl rfl fun a hF=>?_
   refine E.opv hF (r_move (hF.at 6 rfl)) rfl rfl rfl rfl fun a hF=>?_
   obtain⟨glu9,w10,hr,ge,bb,hbk⟩:=bsL_t w3 (bstr (wd))
   refine E.opv hF (r_buildSlice (pair1 (hF.at 0 rfl)) hr) rfl rfl rfl rfl fun a hF=>?_
   replace st:=st.new ge bb hbk
   clear hr bb hbk ge
   obtain⟨lau11,lcu11,w12,hr,hpa,gg,bb,ku,hne⟩:=putU_t st.g (st.bk 0 rfl) (by omega) st.bel.size
   refine E.opv hF (r_builtin (map2 (hF.at 2 rfl) (hF.at 0 rfl)) hr) rfl rfl rfl rfl fun a hF=>?_
   replace st:=st.grow gg bb ku clU0 hpa AccU.gc AccU.gl hne
   clear hr gg bb ku hne hpa
   refine E.opset (L':=[(2,.slice lau11 (n+1) lcu11),(31,.slice lau11 (n+1) lcu11),(30,.slice (some ⟨glu9,0,none⟩) 1 1),(29,.string (bstr (wd))),(28,.slice la n lc),(10,.bool false),(9,.int .i64 ((List.length (xs):Nat):Int)),(8,.string (bstr xs)),(7,.int .i64 ((i:Nat):Int)),(5,.int .i64 ((i:Nat):Int)),(4,.string (bstr (wd))),(3,.slice la n lc),(0,.string (bstr xs))]) hF (r_assign (hF.at 0 rfl)) rfl rfl rfl rfl fun a hF=>?_
   refine E.nil ?_
   refine wp_ret ?_
   have bel:=st.bel
   refine bodyPost_ret (res_tmp Tryd.results14 (hF.at 0 rfl)) hF.dfr ?_
   have e1:out++[wd]=L:=by rw[←hs,spB_end (by omega)]
   have e2:n+1=L.length:=by rw[←e1,List.length_append,←hn];rfl
   exact⟨_,_,by rw[←e2],(by rw[←e1,strC_app,List.length_append,←hn];exact st.g),bel⟩
end Go.Proofs.YtdkmjclbhfnegaaDoor
