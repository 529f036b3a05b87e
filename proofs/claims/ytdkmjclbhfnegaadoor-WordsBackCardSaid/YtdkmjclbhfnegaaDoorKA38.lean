import Derived.Test.YtdkmjclbhfnegaaDoorKA36
import Derived.Test.YtdkmjclbhfnegaaDoorKA37
namespace Go.Proofs.YtdkmjclbhfnegaaDoor
open Go.RowKit
set_option maxRecDepth 100000
set_option linter.unusedVariables false
set_option maxHeartbeats 8000000
theorem bstr_back (s:ByteArray):bstr (s.data.toList.map UInt8.toNat)=s:=by
 cases s with
 |mk a=>
  unfold bstr
  simp only [List.map_map]
  have:(UInt8.ofNat ∘ UInt8.toNat)=id:=by funext b;simp
  rw[this]
  simp
theorem okb_back (s:ByteArray):okb 256 (s.data.toList.map UInt8.toNat):=by
 intro x hx
 obtain⟨b,_,rfl⟩:=List.mem_map.1 hx
 exact b.toNat_lt
theorem rSplit27_lit (L:List (List Nat)) {s:ByteArray} (w:World) (h:spB [] [] (s.data.toList.map UInt8.toNat)=L) (hs:s.size≤1000):Calls Tryd.prog 14 #[.string s] w (RowsP w L):=by
 have e:=rSplit27_any (s.data.toList.map UInt8.toNat) L w (okb_back s) (by rw[List.length_map,Array.length_toList];exact hs) h
 rw[bstr_back] at e
 exact e
theorem l3_all {p:Nat→Bool} (n:Nat) (h:(List.range n).all p=true):∀i,i<n→p i=true:=fun i hi=>List.all_eq_true.1 h i (List.mem_range.2 hi)
theorem l3_len:(nmL 3).length =30:=by decide+kernel
theorem l3_cast {i:Nat} {X:List Nat} (hi:i<30) (e:atL (nmL 3) i=X):strC ((nmL 3).take i)++[.string (bstr X)]=strC ((nmL 3).take (i+1)):=by
 rw[←tkL_step (by rw[l3_len];exact hi),strC_app,e];rfl
theorem l3_14 {i:Nat} (h:i=14):atL (nmL 3) i=[112,117,114,110,105,109,97]:=by subst h;decide+kernel
theorem l3_29 {i:Nat} (h:i=29):atL (nmL 3) i=[97,109,97,118,97,115,121,97]:=by subst h;decide+kernel
theorem l3_lo {i:Nat} (h:i<14):atL (nmL 3) i=[115,104,117,107,108,97,45]++atL nt3 i:=of_decide_eq_true (l3_all (p:=fun i=>decide (atL (nmL 3) i=[115,104,117,107,108,97,45]++atL nt3 i)) 14 (by decide+kernel) i h)
theorem l3_hi {i:Nat} (h:15≤i) (h2:i<29):atL (nmL 3) i=[107,114,105,115,104,110,97,45]++atL nt3 (i-15):=by
 have e:=of_decide_eq_true (l3_all (p:=fun i=>decide (atL (nmL 3) (i+15)=[107,114,105,115,104,110,97,45]++atL nt3 i)) 14 (by decide+kernel) (i-15) (by omega))
 rwa[show i-15+15=i by omega] at e
theorem l3_cut {W w:World} {bs:List (Nat×List Value)} {fs:List (World→Prop)} {v:Value} {n T base:Nat} {rs rs':List Value} (e:rs=rs'):(fun w=>AccU w 1 T base v n rs)=fun w=>AccU w 1 T base v n rs':=by rw[e]
def fdA (L:List (List Nat)) (xs:List Nat):Int:=if xs∈L then((L.idxOf xs:Nat):Int) else -1
theorem fdA_nil (xs:List Nat):fdA [] xs= -1:=by simp[fdA]
theorem fdA_neg {L:List (List Nat)} {xs:List Nat}:fdA L xs<0↔xs ∉ L:=by
 unfold fdA
 split
 ·rename_i h;constructor
  ·intro q;omega
  ·intro q;exact absurd h q
 ·rename_i h;simp[h]
theorem fdA_hit {L:List (List Nat)} {xs:List Nat} {i:Nat} (hi:i<L.length) (e:atL L i=xs) (h:fdA (L.take i) xs<0):((i:Nat):Int)=fdA (L.take (i+1)) xs:=by
 have hn:=fdA_neg.1 h
 rw[←tkL_step hi,e]
 unfold fdA
 rw[if_pos (by simp),List.idxOf_append,if_neg hn]
 simp[Nat.min_eq_left (Nat.le_of_lt hi)]
theorem fdA_mem {L K:List (List Nat)} {xs:List Nat} (h:xs∈L):fdA (L++K) xs=fdA L xs:=by
 unfold fdA
 rw[if_pos (List.mem_append_left _ h),if_pos h,List.idxOf_append,if_pos h]
theorem fdA_out {L:List (List Nat)} {xs ys:List Nat} (h:¬ys=xs):fdA (L++[ys]) xs=fdA L xs:=by
 by_cases hm:xs∈L
 ·exact fdA_mem hm
 ·unfold fdA
  rw[if_neg hm,if_neg (by simp[hm];exact fun e=>h e.symm)]
theorem fdA_miss {L:List (List Nat)} {xs:List Nat} {i:Nat} (hi:i<L.length) (h:¬atL L i=xs∨¬fdA (L.take i) xs<0):fdA (L.take i) xs=fdA (L.take (i+1)) xs:=by
 rw[←tkL_step hi]
 rcases h with h|h
 ·exact(fdA_out h).symm
 ·exact(fdA_mem (by rw[fdA_neg] at h;exact Classical.not_not.1 h)).symm
theorem fdI_is (L:List (List Nat)) (xs:List Nat):fdI L xs=max (fdA L xs) 0:=by
 unfold fdI fdA
 split <;> omega
theorem fdB_is (L:List (List Nat)) (xs:List Nat):fdB L xs=decide (0≤fdA L xs):=by
 unfold fdB
 rw[decide_eq_decide]
 have:=fdA_neg (L:=L) (xs:=xs)
 by_cases h:xs∈L
 ·simp only [h,true_iff];rw[←Int.not_lt,this];exact fun q=>q h
 ·simp only [h,false_iff];rw[Int.not_le,this];exact h
theorem rAll27_any (z:Int) (w:World):
 Calls Tryd.prog 8 #[.int .i64 z] w (RowsP w (nmK z)):=by
 have hN:nt3.length=14:=by decide
 have st:=St.start w
 refine E.enter (nt:=70) (L:=[(0,.int .i64 z)]) Tryd.func8 rfl rfl rfl (args_cons (i:=0) rfl args_nil) ?_
 intro a hF
 refine wp_seq ?_
 refine E.seq ?_
 refine E.opv hF (r_assign ev_c) rfl rfl rfl rfl fun a hF=>?_
 refine E.nil ?_
 refine wp_seq ?_
 refine wp_seq ?_
 refine E.seq ?_
 refine E.opv hF (r_move (hF.at 1 rfl)) rfl rfl rfl rfl fun a hF=>?_
 refine E.nil ?_
 refine wp_block ?_
 refine wp_seq ?_
 refine E.seq ?_
 by_cases hc1:z=0
 ·refine E.opv hF (r_bin (hF.at 0 rfl) ev_c eg_scalar (bi_int (ic_eql (c:=true) (dec_tt (by omega))) (by simp))) rfl rfl rfl rfl fun a hF=>?_
  refine E.opv hF (r_assign (hF.at 0 rfl)) rfl rfl rfl rfl fun a hF=>?_
  refine E.nil ?_
  refine wp_cond_true (hF.at 0 rfl) ?_
  refine wp_seq ?_
  refine E.seq ?_
  refine E.call hF (rgc k14 (map1 ev_c)) (rSplit27_lit nt0 _ (by kernel_rfl) (by decide+kernel)) rfl rfl rfl rfl ?_
  rintro e w2 ⟨ad,cp,rfl,hac,bb⟩
  refine⟨_,rfl,?_⟩
  intro a hF
  replace st:=st.to bb
  clear bb
  refine E.opset (L':=[(2,.slice ad nt0.length cp),(9,.slice ad nt0.length cp),(7,.bool true),(8,.bool true),(6,.int .i64 z),(0,.int .i64 z)]) hF (r_assign (hF.at 0 rfl)) rfl rfl rfl rfl fun a hF=>?_
  refine E.nil ?_
  refine wp_ret ?_
  refine E.pastbr ?_
  refine E.pastr ?_
  have bel:=st.bel
  refine bodyPost_ret (res_tmp Tryd.results8 (hF.at 0 rfl)) hF.dfr ?_
  have ez:nmK z=nt0:=by rw[hc1];exact nmK_in (k:=0) (by decide)
  rw[ez]
  exact⟨_,_,rfl,hac,bel⟩
 ·refine E.opv hF (r_bin (hF.at 0 rfl) ev_c eg_scalar (bi_int (ic_eql (c:=false) (dec_ff (by omega))) (by simp))) rfl rfl rfl rfl fun a hF=>?_
  refine E.opv hF (r_assign (hF.at 0 rfl)) rfl rfl rfl rfl fun a hF=>?_
  refine E.nil ?_
  refine wp_cond_false (hF.at 0 rfl) ?_
  refine wp_seq ?_
  refine E.seq ?_
  by_cases hc3:z=1
  ·refine E.opv hF (r_bin (hF.at 2 rfl) ev_c eg_scalar (bi_int (ic_eql (c:=true) (dec_tt (by omega))) (by simp))) rfl rfl rfl rfl fun a hF=>?_
   refine E.opv hF (r_assign (hF.at 0 rfl)) rfl rfl rfl rfl fun a hF=>?_
   refine E.nil ?_
   refine wp_cond_true (hF.at 0 rfl) ?_
   refine wp_seq ?_
   refine E.seq ?_
   refine E.call hF (rgc k14 (map1 ev_c)) (rSplit27_lit nt1 _ (by kernel_rfl) (by decide+kernel)) rfl rfl rfl rfl ?_
   rintro e w4 ⟨ad,cp,rfl,hac,bb⟩
   refine⟨_,rfl,?_⟩
   intro a hF
   replace st:=st.to bb
   clear bb
   refine E.opset (L':=[(2,.slice ad nt1.length cp),(12,.slice ad nt1.length cp),(10,.bool true),(11,.bool true),(7,.bool false),(8,.bool false),(6,.int .i64 z),(0,.int .i64 z)]) hF (r_assign (hF.at 0 rfl)) rfl rfl rfl rfl fun a hF=>?_
   refine E.nil ?_
   refine wp_ret ?_
   refine E.pastbr ?_
   refine E.pastr ?_
   have bel:=st.bel
   refine bodyPost_ret (res_tmp Tryd.results8 (hF.at 0 rfl)) hF.dfr ?_
   have ez:nmK z=nt1:=by rw[hc3];exact nmK_in (k:=1) (by decide)
   rw[ez]
   exact⟨_,_,rfl,hac,bel⟩
  ·refine E.opv hF (r_bin (hF.at 2 rfl) ev_c eg_scalar (bi_int (ic_eql (c:=false) (dec_ff (by omega))) (by simp))) rfl rfl rfl rfl fun a hF=>?_
   refine E.opv hF (r_assign (hF.at 0 rfl)) rfl rfl rfl rfl fun a hF=>?_
   refine E.nil ?_
   refine wp_cond_false (hF.at 0 rfl) ?_
   refine wp_seq ?_
   refine E.seq ?_
   by_cases hc5:z=2
   ·refine E.opv hF (r_bin (hF.at 4 rfl) ev_c eg_scalar (bi_int (ic_eql (c:=true) (dec_tt (by omega))) (by simp))) rfl rfl rfl rfl fun a hF=>?_
    refine E.opv hF (r_assign (hF.at 0 rfl)) rfl rfl rfl rfl fun a hF=>?_
    refine E.nil ?_
    refine wp_cond_true (hF.at 0 rfl) ?_
    refine wp_seq ?_
    refine E.seq ?_
    refine E.call hF (rgc k14 (map1 ev_c)) (rSplit27_lit nt2 _ (by kernel_rfl) (by decide+kernel)) rfl rfl rfl rfl ?_
    rintro e w6 ⟨ad,cp,rfl,hac,bb⟩
    refine⟨_,rfl,?_⟩
    intro a hF
    replace st:=st.to bb
    clear bb
    refine E.opset (L':=[(2,.slice ad nt2.length cp),(15,.slice ad nt2.length cp),(13,.bool true),(14,.bool true),(10,.bool false),(11,.bool false),(7,.bool false),(8,.bool false),(6,.int .i64 z),(0,.int .i64 z)]) hF (r_assign (hF.at 0 rfl)) rfl rfl rfl rfl fun a hF=>?_
    refine E.nil ?_
    refine wp_ret ?_
    refine E.pastbr ?_
    refine E.pastr ?_
    have bel:=st.bel
    refine bodyPost_ret (res_tmp Tryd.results8 (hF.at 0 rfl)) hF.dfr ?_
    have ez:nmK z=nt2:=by rw[hc5];exact nmK_in (k:=2) (by decide)
    rw[ez]
    exact⟨_,_,rfl,hac,bel⟩
   ·refine E.opv hF (r_bin (hF.at 4 rfl) ev_c eg_scalar (bi_int (ic_eql (c:=false) (dec_ff (by omega))) (by simp))) rfl rfl rfl rfl fun a hF=>?_
    refine E.opv hF (r_assign (hF.at 0 rfl)) rfl rfl rfl rfl fun a hF=>?_
    refine E.nil ?_
    refine wp_cond_false (hF.at 0 rfl) ?_
    refine wp_seq ?_
    refine E.seq ?_
    by_cases hc7:z=3
    ·refine E.opv hF (r_bin (hF.at 6 rfl) ev_c eg_scalar (bi_int (ic_eql (c:=true) (dec_tt (by omega))) (by simp))) rfl rfl rfl rfl fun a hF=>?_
     refine E.opv hF (r_assign (hF.at 0 rfl)) rfl rfl rfl rfl fun a hF=>?_
     refine E.nil ?_
     refine wp_cond_true (hF.at 0 rfl) ?_
     refine wp_seq ?_
     refine E.seq ?_
     obtain⟨glu8,w9,ge,hr,bb,hpa⟩:=bsU0_t w w.heap.size st.bel.size
     refine E.opv hF (r_buildSlice (by simp) hr) rfl rfl rfl rfl fun a hF=>?_
     replace st:=(st.to bb).grow0 hpa AccU.gc AccU.gl (st.gnew ge)
     clear hr bb hpa ge
     refine E.opv hF (r_assign (hF.at 0 rfl)) rfl rfl rfl rfl fun a hF=>?_
     refine E.nil ?_
     refine wp_seq ?_
     refine E.seq ?_
     refine E.call hF (rgc k14 (map1 ev_c)) (rSplit27_lit nt3 _ (by kernel_rfl) (by decide+kernel)) rfl rfl rfl rfl ?_
     rintro e w10 ⟨ad,cp,rfl,hac,bb⟩
     refine⟨_,rfl,?_⟩
     intro a hF
     obtain⟨gr,more,rfl, -,hgr,hbk⟩:=hac.row (by decide)
     have s0:=st
     replace st:=(st.to bb).push hbk (Nat.le_trans s0.bel.size hgr) (s0.ne hgr) (s0.away hgr)
     clear hac hbk bb s0
     refine E.opv hF (r_assign (hF.at 0 rfl)) rfl rfl rfl rfl fun a hF=>?_
     refine E.nil ?_
     refine wp_seq ?_
     refine wp_seq ?_
     refine E.seq ?_
     refine E.opv hF (r_assign ev_c) rfl rfl rfl rfl fun a hF=>?_
     refine E.nil ?_
     refine wp_block ?_
     refine E.loop (fun mq a wv=>∃(i:Nat) (la:Option Addr) (lc:Nat),i≤30∧Fr 70 a [(5,.int .i64 ((i:Nat):Int)),(4,.slice (some ⟨gr,0,none⟩) nt3.length cp),(3,.slice la i lc),(2,.slice none 0 0)]∧Sg w wv [(gr,strC nt3++more)] [] (.slice la i lc) (fun wx=>AccU wx 1 9 w.heap.size (.slice la i lc) i (strC ((nmL 3).take i)))∧mq=30-i) ((30-0)) ?_ ?_
     ·exact⟨0,(some ⟨glu8,0,none⟩),0,(Nat.zero_le _),Fr.pick (L':=[(5,.int .i64 ((0:Nat):Int)),(4,.slice (some ⟨gr,0,none⟩) nt3.length cp),(3,.slice (some ⟨glu8,0,none⟩) 0 0),(2,.slice none 0 0)]) hF [0,1,3,14] rfl,((st.pick [0] [] rfl rfl (by decide)).cast rfl),rfl⟩
     ·rintro mq a w11 ⟨i,la,lc,hi,hF,st,hm⟩
      by_cases hlt:i<30
      ·refine wp_seq ?_
       refine wp_seq ?_
       refine E.seq ?_
       refine E.opv hF (r_move (hF.at 0 rfl)) rfl rfl rfl rfl fun a hF=>?_
       refine E.opv hF (r_bin (hF.at 0 rfl) ev_c eg_scalar (bi_int (ic_lss (c:=true) (dec_tt (by omega))) (by simp))) rfl rfl rfl rfl fun a hF=>?_
       refine E.nil ?_
       refine wp_cond_true (hF.at 0 rfl) ?_
       refine wp_skip ?_
       refine E.norm ?_
       refine wp_seq ?_
       refine wp_block ?_
       refine wp_block ?_
       refine wp_seq ?_
       refine E.seq ?_
       refine E.opv hF (r_move (hF.at 2 rfl)) rfl rfl rfl rfl fun a hF=>?_
       by_cases hc12:i=14
       ·refine E.opv hF (r_bin (hF.at 0 rfl) ev_c eg_scalar (bi_int (ic_eql (c:=true) (dec_tt (by omega))) (by simp))) rfl rfl rfl rfl fun a hF=>?_
        refine E.opv hF (r_assign (hF.at 0 rfl)) rfl rfl rfl rfl fun a hF=>?_
        refine E.nil ?_
        refine wp_cond_true (hF.at 0 rfl) ?_
        refine E.seq ?_
        refine E.opv hF (r_move (hF.at 7 rfl)) rfl rfl rfl rfl fun a hF=>?_
        obtain⟨glu13,w14,hr,ge,bb,hbk⟩:=bsL_t w11 (bstr [112,117,114,110,105,109,97])
        refine E.opv hF (r_buildSlice (pair1 ev_c) hr) rfl rfl rfl rfl fun a hF=>?_
        replace st:=st.new ge bb hbk
        clear hr bb hbk ge
        obtain⟨lau15,lcu15,w16,hr,hpa,gg,bb,ku,hne⟩:=putU_t st.g (st.bk 0 rfl) (by omega) st.bel.size
        refine E.opv hF (r_builtin (map2 (hF.at 1 rfl) (hF.at 0 rfl)) hr) rfl rfl rfl rfl fun a hF=>?_
        replace st:=st.grow gg bb ku clU0 hpa AccU.gc AccU.gl hne
        clear hr gg bb ku hne hpa
        refine E.opset (L':=[(3,.slice lau15 (i+1) lcu15),(38,.slice lau15 (i+1) lcu15),(37,.slice (some ⟨glu13,0,none⟩) 1 1),(36,.slice la i lc),(33,.bool true),(35,.bool true),(34,.int .i64 ((i:Nat):Int)),(21,.bool true),(20,.int .i64 ((i:Nat):Int)),(5,.int .i64 ((i:Nat):Int)),(4,.slice (some ⟨gr,0,none⟩) nt3.length cp),(2,.slice none 0 0)]) hF (r_assign (hF.at 0 rfl)) rfl rfl rfl rfl fun a hF=>?_
        refine E.nil0 ?_
        refine E.blk ?_
        refine E.blk ?_
        refine E.norm ?_
        refine E.seq ?_
        refine E.opv hF (r_move (hF.at 9 rfl)) rfl rfl rfl rfl fun a hF=>?_
        refine E.opv hF (r_bin (hF.at 0 rfl) ev_c eg_scalar (ia_add (by omega) (by omega))) rfl rfl rfl rfl fun a hF=>?_
        refine E.opset (L':=[(5,.int .i64 (((i:Nat):Int)+1)),(23,.int .i64 (((i:Nat):Int)+1)),(22,.int .i64 ((i:Nat):Int)),(3,.slice lau15 (i+1) lcu15),(38,.slice lau15 (i+1) lcu15),(37,.slice (some ⟨glu13,0,none⟩) 1 1),(36,.slice la i lc),(33,.bool true),(35,.bool true),(34,.int .i64 ((i:Nat):Int)),(21,.bool true),(20,.int .i64 ((i:Nat):Int)),(4,.slice (some ⟨gr,0,none⟩) nt3.length cp),(2,.slice none 0 0)]) hF (r_assign (hF.at 0 rfl)) rfl rfl rfl rfl fun a hF=>?_
        refine E.nil0 ?_
        refine E.norm ?_
        replace hF:Fr 70 a [(5,.int .i64 ((i+1:Nat):Int)),(23,.int .i64 (((i:Nat):Int)+1)),(22,.int .i64 ((i:Nat):Int)),(3,.slice lau15 (i+1) lcu15),(38,.slice lau15 (i+1) lcu15),(37,.slice (some ⟨glu13,0,none⟩) 1 1),(36,.slice la i lc),(33,.bool true),(35,.bool true),(34,.int .i64 ((i:Nat):Int)),(21,.bool true),(20,.int .i64 ((i:Nat):Int)),(4,.slice (some ⟨gr,0,none⟩) nt3.length cp),(2,.slice none 0 0)]:=by rw[show((i+1:Nat):Int)=((i:Nat):Int)+1 by omega];exact hF
        exact⟨(30-(i+1)),by omega,⟨(i+1),lau15,lcu15,(by omega),Fr.pick (L':=[(5,.int .i64 ((i+1:Nat):Int)),(4,.slice (some ⟨gr,0,none⟩) nt3.length cp),(3,.slice lau15 (i+1) lcu15),(2,.slice none 0 0)]) hF [0,12,3,13] rfl,((st.pick [1] [] rfl rfl (by decide)).cast (l3_cut (W:=w) (w:=w) (bs:=[]) (fs:=[]) (l3_cast hlt (l3_14 hc12)))),rfl⟩⟩
       ·refine E.opv hF (r_bin (hF.at 0 rfl) ev_c eg_scalar (bi_int (ic_eql (c:=false) (dec_ff (by omega))) (by simp))) rfl rfl rfl rfl fun a hF=>?_
        refine E.opv hF (r_assign (hF.at 0 rfl)) rfl rfl rfl rfl fun a hF=>?_
        refine E.nil ?_
        refine wp_cond_false (hF.at 0 rfl) ?_
        refine wp_seq ?_
        refine E.seq ?_
        refine E.opv hF (r_move (hF.at 5 rfl)) rfl rfl rfl rfl fun a hF=>?_
        by_cases hc17:i=29
        ·refine E.opv hF (r_bin (hF.at 0 rfl) ev_c eg_scalar (bi_int (ic_eql (c:=true) (dec_tt (by omega))) (by simp))) rfl rfl rfl rfl fun a hF=>?_
         refine E.opv hF (r_assign (hF.at 0 rfl)) rfl rfl rfl rfl fun a hF=>?_
         refine E.nil ?_
         refine wp_cond_true (hF.at 0 rfl) ?_
         refine E.seq ?_
         refine E.opv hF (r_move (hF.at 10 rfl)) rfl rfl rfl rfl fun a hF=>?_
         obtain⟨glu18,w19,hr,ge,bb,hbk⟩:=bsL_t w11 (bstr [97,109,97,118,97,115,121,97])
         refine E.opv hF (r_buildSlice (pair1 ev_c) hr) rfl rfl rfl rfl fun a hF=>?_
         replace st:=st.new ge bb hbk
         clear hr bb hbk ge
         obtain⟨lau20,lcu20,w21,hr,hpa,gg,bb,ku,hne⟩:=putU_t st.g (st.bk 0 rfl) (by omega) st.bel.size
         refine E.opv hF (r_builtin (map2 (hF.at 1 rfl) (hF.at 0 rfl)) hr) rfl rfl rfl rfl fun a hF=>?_
         replace st:=st.grow gg bb ku clU0 hpa AccU.gc AccU.gl hne
         clear hr gg bb ku hne hpa
         refine E.opset (L':=[(3,.slice lau20 (i+1) lcu20),(44,.slice lau20 (i+1) lcu20),(43,.slice (some ⟨glu18,0,none⟩) 1 1),(42,.slice la i lc),(39,.bool true),(41,.bool true),(40,.int .i64 ((i:Nat):Int)),(33,.bool false),(35,.bool false),(34,.int .i64 ((i:Nat):Int)),(21,.bool true),(20,.int .i64 ((i:Nat):Int)),(5,.int .i64 ((i:Nat):Int)),(4,.slice (some ⟨gr,0,none⟩) nt3.length cp),(2,.slice none 0 0)]) hF (r_assign (hF.at 0 rfl)) rfl rfl rfl rfl fun a hF=>?_
         refine E.nil0 ?_
         refine E.blk ?_
         refine E.blk ?_
         refine E.norm ?_
         refine E.seq ?_
         refine E.opv hF (r_move (hF.at 12 rfl)) rfl rfl rfl rfl fun a hF=>?_
         refine E.opv hF (r_bin (hF.at 0 rfl) ev_c eg_scalar (ia_add (by omega) (by omega))) rfl rfl rfl rfl fun a hF=>?_
         refine E.opset (L':=[(5,.int .i64 (((i:Nat):Int)+1)),(23,.int .i64 (((i:Nat):Int)+1)),(22,.int .i64 ((i:Nat):Int)),(3,.slice lau20 (i+1) lcu20),(44,.slice lau20 (i+1) lcu20),(43,.slice (some ⟨glu18,0,none⟩) 1 1),(42,.slice la i lc),(39,.bool true),(41,.bool true),(40,.int .i64 ((i:Nat):Int)),(33,.bool false),(35,.bool false),(34,.int .i64 ((i:Nat):Int)),(21,.bool true),(20,.int .i64 ((i:Nat):Int)),(4,.slice (some ⟨gr,0,none⟩) nt3.length cp),(2,.slice none 0 0)]) hF (r_assign (hF.at 0 rfl)) rfl rfl rfl rfl fun a hF=>?_
         refine E.nil0 ?_
         refine E.norm ?_
         replace hF:Fr 70 a [(5,.int .i64 ((i+1:Nat):Int)),(23,.int .i64 (((i:Nat):Int)+1)),(22,.int .i64 ((i:Nat):Int)),(3,.slice lau20 (i+1) lcu20),(44,.slice lau20 (i+1) lcu20),(43,.slice (some ⟨glu18,0,none⟩) 1 1),(42,.slice la i lc),(39,.bool true),(41,.bool true),(40,.int .i64 ((i:Nat):Int)),(33,.bool false),(35,.bool false),(34,.int .i64 ((i:Nat):Int)),(21,.bool true),(20,.int .i64 ((i:Nat):Int)),(4,.slice (some ⟨gr,0,none⟩) nt3.length cp),(2,.slice none 0 0)]:=by rw[show((i+1:Nat):Int)=((i:Nat):Int)+1 by omega];exact hF
         exact⟨(30-(i+1)),by omega,⟨(i+1),lau20,lcu20,(by omega),Fr.pick (L':=[(5,.int .i64 ((i+1:Nat):Int)),(4,.slice (some ⟨gr,0,none⟩) nt3.length cp),(3,.slice lau20 (i+1) lcu20),(2,.slice none 0 0)]) hF [0,15,3,16] rfl,((st.pick [1] [] rfl rfl (by decide)).cast (l3_cut (W:=w) (w:=w) (bs:=[]) (fs:=[]) (l3_cast hlt (l3_29 hc17)))),rfl⟩⟩
        ·refine E.opv hF (r_bin (hF.at 0 rfl) ev_c eg_scalar (bi_int (ic_eql (c:=false) (dec_ff (by omega))) (by simp))) rfl rfl rfl rfl fun a hF=>?_
         refine E.opv hF (r_assign (hF.at 0 rfl)) rfl rfl rfl rfl fun a hF=>?_
         refine E.nil ?_
         refine wp_cond_false (hF.at 0 rfl) ?_
         refine wp_seq ?_
         refine E.seq ?_
         refine E.opv hF (r_move (hF.at 8 rfl)) rfl rfl rfl rfl fun a hF=>?_
         by_cases hc22:i<14
         ·refine E.opv hF (r_bin (hF.at 0 rfl) ev_c eg_scalar (bi_int (ic_lss (c:=true) (dec_tt (by omega))) (by simp))) rfl rfl rfl rfl fun a hF=>?_
          refine E.opv hF (r_assign (hF.at 0 rfl)) rfl rfl rfl rfl fun a hF=>?_
          refine E.nil ?_
          refine wp_cond_true (hF.at 0 rfl) ?_
          refine E.seq ?_
          refine E.opv hF (r_move (hF.at 13 rfl)) rfl rfl rfl rfl fun a hF=>?_
          refine E.opv hF (r_move (hF.at 13 rfl)) rfl rfl rfl rfl fun a hF=>?_
          refine E.opv hF (r_move (hF.at 13 rfl)) rfl rfl rfl rfl fun a hF=>?_
          refine E.opv hF (r_index (hF.at 1 rfl) (hF.at 0 rfl) (ix_strs (i:=i) (by omega) (by omega))) rfl rfl rfl rfl fun a hF=>?_
          refine E.opv hF (r_load (hF.at 0 rfl) (ldb_str (v:= .string (bstr (atL nt3 i))) (st.bk 0 rfl) (strC_at (atL_at (by omega)) _))) rfl rfl rfl rfl fun a hF=>?_
          refine E.opv hF (r_bin ev_c (hF.at 0 rfl) eg_str (sb_add (xs:=[115,104,117,107,108,97,45]) (ys:=(atL nt3 i)) (by have:=nt3_le i;have:=nt3_le (i-15);simp only [List.length_cons,List.length_nil];omega))) rfl rfl rfl rfl fun a hF=>?_
          obtain⟨glu23,w24,hr,ge,bb,hbk⟩:=bsL_t w11 (bstr ([115,104,117,107,108,97,45]++(atL nt3 i)))
          refine E.opv hF (r_buildSlice (pair1 (hF.at 0 rfl)) hr) rfl rfl rfl rfl fun a hF=>?_
          replace st:=st.new ge bb hbk
          clear hr bb hbk ge
          obtain⟨lau25,lcu25,w26,hr,hpa,gg,bb,ku,hne⟩:=putU_t st.g (st.bk 0 rfl) (by omega) st.bel.size
          refine E.opv hF (r_builtin (map2 (hF.at 6 rfl) (hF.at 0 rfl)) hr) rfl rfl rfl rfl fun a hF=>?_
          replace st:=st.grow gg bb ku clU0 hpa AccU.gc AccU.gl hne
          clear hr gg bb ku hne hpa
          refine E.opset (L':=[(3,.slice lau25 (i+1) lcu25),(55,.slice lau25 (i+1) lcu25),(54,.slice (some ⟨glu23,0,none⟩) 1 1),(53,.string (bstr ([115,104,117,107,108,97,45]++(atL nt3 i)))),(52,.string (bstr (atL nt3 i))),(51,.pointer (some ⟨gr,i,none⟩)),(50,.int .i64 ((i:Nat):Int)),(49,.slice (some ⟨gr,0,none⟩) nt3.length cp),(48,.slice la i lc),(45,.bool true),(47,.bool true),(46,.int .i64 ((i:Nat):Int)),(39,.bool false),(41,.bool false),(40,.int .i64 ((i:Nat):Int)),(33,.bool false),(35,.bool false),(34,.int .i64 ((i:Nat):Int)),(21,.bool true),(20,.int .i64 ((i:Nat):Int)),(5,.int .i64 ((i:Nat):Int)),(4,.slice (some ⟨gr,0,none⟩) nt3.length cp),(2,.slice none 0 0)]) hF (r_assign (hF.at 0 rfl)) rfl rfl rfl rfl fun a hF=>?_
          refine E.nil0 ?_
          refine E.blk ?_
          refine E.blk ?_
          refine E.norm ?_
          refine E.seq ?_
          refine E.opv hF (r_move (hF.at 20 rfl)) rfl rfl rfl rfl fun a hF=>?_
          refine E.opv hF (r_bin (hF.at 0 rfl) ev_c eg_scalar (ia_add (by omega) (by omega))) rfl rfl rfl rfl fun a hF=>?_
          refine E.opset (L':=[(5,.int .i64 (((i:Nat):Int)+1)),(23,.int .i64 (((i:Nat):Int)+1)),(22,.int .i64 ((i:Nat):Int)),(3,.slice lau25 (i+1) lcu25),(55,.slice lau25 (i+1) lcu25),(54,.slice (some ⟨glu23,0,none⟩) 1 1),(53,.string (bstr ([115,104,117,107,108,97,45]++(atL nt3 i)))),(52,.string (bstr (atL nt3 i))),(51,.pointer (some ⟨gr,i,none⟩)),(50,.int .i64 ((i:Nat):Int)),(49,.slice (some ⟨gr,0,none⟩) nt3.length cp),(48,.slice la i lc),(45,.bool true),(47,.bool true),(46,.int .i64 ((i:Nat):Int)),(39,.bool false),(41,.bool false),(40,.int .i64 ((i:Nat):Int)),(33,.bool false),(35,.bool false),(34,.int .i64 ((i:Nat):Int)),(21,.bool true),(20,.int .i64 ((i:Nat):Int)),(4,.slice (some ⟨gr,0,none⟩) nt3.length cp),(2,.slice none 0 0)]) hF (r_assign (hF.at 0 rfl)) rfl rfl rfl rfl fun a hF=>?_
          refine E.nil0 ?_
          refine E.norm ?_
          replace hF:Fr 70 a [(5,.int .i64 ((i+1:Nat):Int)),(23,.int .i64 (((i:Nat):Int)+1)),(22,.int .i64 ((i:Nat):Int)),(3,.slice lau25 (i+1) lcu25),(55,.slice lau25 (i+1) lcu25),(54,.slice (some ⟨glu23,0,none⟩) 1 1),(53,.string (bstr ([115,104,117,107,108,97,45]++(atL nt3 i)))),(52,.string (bstr (atL nt3 i))),(51,.pointer (some ⟨gr,i,none⟩)),(50,.int .i64 ((i:Nat):Int)),(49,.slice (some ⟨gr,0,none⟩) nt3.length cp),(48,.slice la i lc),(45,.bool true),(47,.bool true),(46,.int .i64 ((i:Nat):Int)),(39,.bool false),(41,.bool false),(40,.int .i64 ((i:Nat):Int)),(33,.bool false),(35,.bool false),(34,.int .i64 ((i:Nat):Int)),(21,.bool true),(20,.int .i64 ((i:Nat):Int)),(4,.slice (some ⟨gr,0,none⟩) nt3.length cp),(2,.slice none 0 0)]:=by rw[show((i+1:Nat):Int)=((i:Nat):Int)+1 by omega];exact hF
          exact⟨(30-(i+1)),by omega,⟨(i+1),lau25,lcu25,(by omega),Fr.pick (L':=[(5,.int .i64 ((i+1:Nat):Int)),(4,.slice (some ⟨gr,0,none⟩) nt3.length cp),(3,.slice lau25 (i+1) lcu25),(2,.slice none 0 0)]) hF [0,23,3,24] rfl,((st.pick [1] [] rfl rfl (by decide)).cast (l3_cut (W:=w) (w:=w) (bs:=[]) (fs:=[]) (l3_cast hlt (l3_lo hc22)))),rfl⟩⟩
         ·refine E.opv hF (r_bin (hF.at 0 rfl) ev_c eg_scalar (bi_int (ic_lss (c:=false) (dec_ff (by omega))) (by simp))) rfl rfl rfl rfl fun a hF=>?_
          refine E.opv hF (r_assign (hF.at 0 rfl)) rfl rfl rfl rfl fun a hF=>?_
          refine E.nil ?_
          refine wp_cond_false (hF.at 0 rfl) ?_
          refine E.seq ?_
          refine E.opv hF (r_move (hF.at 13 rfl)) rfl rfl rfl rfl fun a hF=>?_
          refine E.opv hF (r_move (hF.at 13 rfl)) rfl rfl rfl rfl fun a hF=>?_
          refine E.opv hF (r_move (hF.at 13 rfl)) rfl rfl rfl rfl fun a hF=>?_
          refine E.opv hF (r_bin (hF.at 0 rfl) ev_c eg_scalar (ia_sub (by omega) (by omega))) rfl rfl rfl rfl fun a hF=>?_
          refine E.opv hF (r_index (hF.at 2 rfl) (hF.at 0 rfl) (ix_strs (i:=(i-15)) (by omega) (by omega))) rfl rfl rfl rfl fun a hF=>?_
          refine E.opv hF (r_load (hF.at 0 rfl) (ldb_str (v:= .string (bstr (atL nt3 (i-15)))) (st.bk 0 rfl) (strC_at (atL_at (by omega)) _))) rfl rfl rfl rfl fun a hF=>?_
          refine E.opv hF (r_bin ev_c (hF.at 0 rfl) eg_str (sb_add (xs:=[107,114,105,115,104,110,97,45]) (ys:=(atL nt3 (i-15))) (by have:=nt3_le i;have:=nt3_le (i-15);simp only [List.length_cons,List.length_nil];omega))) rfl rfl rfl rfl fun a hF=>?_
          obtain⟨glu27,w28,hr,ge,bb,hbk⟩:=bsL_t w11 (bstr ([107,114,105,115,104,110,97,45]++(atL nt3 (i-15))))
          refine E.opv hF (r_buildSlice (pair1 (hF.at 0 rfl)) hr) rfl rfl rfl rfl fun a hF=>?_
          replace st:=st.new ge bb hbk
          clear hr bb hbk ge
          obtain⟨lau29,lcu29,w30,hr,hpa,gg,bb,ku,hne⟩:=putU_t st.g (st.bk 0 rfl) (by omega) st.bel.size
          refine E.opv hF (r_builtin (map2 (hF.at 7 rfl) (hF.at 0 rfl)) hr) rfl rfl rfl rfl fun a hF=>?_
          replace st:=st.grow gg bb ku clU0 hpa AccU.gc AccU.gl hne
          clear hr gg bb ku hne hpa
          refine E.opset (L':=[(3,.slice lau29 (i+1) lcu29),(32,.slice lau29 (i+1) lcu29),(31,.slice (some ⟨glu27,0,none⟩) 1 1),(30,.string (bstr ([107,114,105,115,104,110,97,45]++(atL nt3 (i-15))))),(29,.string (bstr (atL nt3 (i-15)))),(28,.pointer (some ⟨gr,(i-15),none⟩)),(27,.int .i64 (((i:Nat):Int)-15)),(26,.int .i64 ((i:Nat):Int)),(25,.slice (some ⟨gr,0,none⟩) nt3.length cp),(24,.slice la i lc),(45,.bool false),(47,.bool false),(46,.int .i64 ((i:Nat):Int)),(39,.bool false),(41,.bool false),(40,.int .i64 ((i:Nat):Int)),(33,.bool false),(35,.bool false),(34,.int .i64 ((i:Nat):Int)),(21,.bool true),(20,.int .i64 ((i:Nat):Int)),(5,.int .i64 ((i:Nat):Int)),(4,.slice (some ⟨gr,0,none⟩) nt3.length cp),(2,.slice none 0 0)]) hF (r_assign (hF.at 0 rfl)) rfl rfl rfl rfl fun a hF=>?_
          refine E.nil0 ?_
          refine E.blk ?_
          refine E.blk ?_
          refine E.norm ?_
          refine E.seq ?_
          refine E.opv hF (r_move (hF.at 21 rfl)) rfl rfl rfl rfl fun a hF=>?_
          refine E.opv hF (r_bin (hF.at 0 rfl) ev_c eg_scalar (ia_add (by omega) (by omega))) rfl rfl rfl rfl fun a hF=>?_
          refine E.opset (L':=[(5,.int .i64 (((i:Nat):Int)+1)),(23,.int .i64 (((i:Nat):Int)+1)),(22,.int .i64 ((i:Nat):Int)),(3,.slice lau29 (i+1) lcu29),(32,.slice lau29 (i+1) lcu29),(31,.slice (some ⟨glu27,0,none⟩) 1 1),(30,.string (bstr ([107,114,105,115,104,110,97,45]++(atL nt3 (i-15))))),(29,.string (bstr (atL nt3 (i-15)))),(28,.pointer (some ⟨gr,(i-15),none⟩)),(27,.int .i64 (((i:Nat):Int)-15)),(26,.int .i64 ((i:Nat):Int)),(25,.slice (some ⟨gr,0,none⟩) nt3.length cp),(24,.slice la i lc),(45,.bool false),(47,.bool false),(46,.int .i64 ((i:Nat):Int)),(39,.bool false),(41,.bool false),(40,.int .i64 ((i:Nat):Int)),(33,.bool false),(35,.bool false),(34,.int .i64 ((i:Nat):Int)),(21,.bool true),(20,.int .i64 ((i:Nat):Int)),(4,.slice (some ⟨gr,0,none⟩) nt3.length cp),(2,.slice none 0 0)]) hF (r_assign (hF.at 0 rfl)) rfl rfl rfl rfl fun a hF=>?_
          refine E.nil0 ?_
          refine E.norm ?_
          replace hF:Fr 70 a [(5,.int .i64 ((i+1:Nat):Int)),(23,.int .i64 (((i:Nat):Int)+1)),(22,.int .i64 ((i:Nat):Int)),(3,.slice lau29 (i+1) lcu29),(32,.slice lau29 (i+1) lcu29),(31,.slice (some ⟨glu27,0,none⟩) 1 1),(30,.string (bstr ([107,114,105,115,104,110,97,45]++(atL nt3 (i-15))))),(29,.string (bstr (atL nt3 (i-15)))),(28,.pointer (some ⟨gr,(i-15),none⟩)),(27,.int .i64 (((i:Nat):Int)-15)),(26,.int .i64 ((i:Nat):Int)),(25,.slice (some ⟨gr,0,none⟩) nt3.length cp),(24,.slice la i lc),(45,.bool false),(47,.bool false),(46,.int .i64 ((i:Nat):Int)),(39,.bool false),(41,.bool false),(40,.int .i64 ((i:Nat):Int)),(33,.bool false),(35,.bool false),(34,.int .i64 ((i:Nat):Int)),(21,.bool true),(20,.int .i64 ((i:Nat):Int)),(4,.slice (some ⟨gr,0,none⟩) nt3.length cp),(2,.slice none 0 0)]:=by rw[show((i+1:Nat):Int)=((i:Nat):Int)+1 by omega];exact hF
          exact⟨(30-(i+1)),by omega,⟨(i+1),lau29,lcu29,(by omega),Fr.pick (L':=[(5,.int .i64 ((i+1:Nat):Int)),(4,.slice (some ⟨gr,0,none⟩) nt3.length cp),(3,.slice lau29 (i+1) lcu29),(2,.slice none 0 0)]) hF [0,24,3,25] rfl,((st.pick [1] [] rfl rfl (by decide)).cast (l3_cut (W:=w) (w:=w) (bs:=[]) (fs:=[]) (l3_cast hlt (l3_hi (by omega) (by omega))))),rfl⟩⟩
      ·refine wp_seq ?_
       refine wp_seq ?_
       refine E.seq ?_
       refine E.opv hF (r_move (hF.at 0 rfl)) rfl rfl rfl rfl fun a hF=>?_
       refine E.opv hF (r_bin (hF.at 0 rfl) ev_c eg_scalar (bi_int (ic_lss (c:=false) (dec_ff (by omega))) (by simp))) rfl rfl rfl rfl fun a hF=>?_
       refine E.nil ?_
       refine wp_cond_false (hF.at 0 rfl) ?_
       refine wp_exit ?_
       refine E.past ?_
       refine E.past ?_
       refine E.out (id:=1) ?_
       refine E.norm ?_
       refine wp_seq ?_
       refine E.seq ?_
       refine E.opv hF (r_move (hF.at 4 rfl)) rfl rfl rfl rfl fun a hF=>?_
       refine E.opset (L':=[(2,.slice la i lc),(56,.slice la i lc),(21,.bool false),(20,.int .i64 ((i:Nat):Int)),(5,.int .i64 ((i:Nat):Int)),(4,.slice (some ⟨gr,0,none⟩) nt3.length cp),(3,.slice la i lc)]) hF (r_assign (hF.at 0 rfl)) rfl rfl rfl rfl fun a hF=>?_
       refine E.nil ?_
       refine wp_ret ?_
       refine E.pastbr ?_
       refine E.pastr ?_
       have bel:=st.bel
       refine bodyPost_ret (res_tmp Tryd.results8 (hF.at 0 rfl)) hF.dfr ?_
       have ez:nmK z=nmL 3:=by rw[hc7];exact nmK_in (k:=3) (by decide)
       have ei:i=(nmL 3).length :=by rw[l3_len];omega
       rw[ez]
       have hg:=st.g
       rw[ei,List.take_length] at hg
       exact⟨_,_,by rw[ei],hg,bel⟩
    ·refine E.opv hF (r_bin (hF.at 6 rfl) ev_c eg_scalar (bi_int (ic_eql (c:=false) (dec_ff (by omega))) (by simp))) rfl rfl rfl rfl fun a hF=>?_
     refine E.opv hF (r_assign (hF.at 0 rfl)) rfl rfl rfl rfl fun a hF=>?_
     refine E.nil ?_
     refine wp_cond_false (hF.at 0 rfl) ?_
     refine wp_seq ?_
     refine E.seq ?_
     by_cases hc31:z=4
     ·refine E.opv hF (r_bin (hF.at 8 rfl) ev_c eg_scalar (bi_int (ic_eql (c:=true) (dec_tt (by omega))) (by simp))) rfl rfl rfl rfl fun a hF=>?_
      refine E.opv hF (r_assign (hF.at 0 rfl)) rfl rfl rfl rfl fun a hF=>?_
      refine E.nil ?_
      refine wp_cond_true (hF.at 0 rfl) ?_
      refine wp_seq ?_
      refine E.seq ?_
      refine E.call hF (rgc k14 (map1 ev_c)) (rSplit27_lit nt4 _ (by kernel_rfl) (by decide+kernel)) rfl rfl rfl rfl ?_
      rintro e w32 ⟨ad,cp,rfl,hac,bb⟩
      refine⟨_,rfl,?_⟩
      intro a hF
      replace st:=st.to bb
      clear bb
      refine E.opset (L':=[(2,.slice ad nt4.length cp),(59,.slice ad nt4.length cp),(57,.bool true),(58,.bool true),(16,.bool false),(17,.bool false),(13,.bool false),(14,.bool false),(10,.bool false),(11,.bool false),(7,.bool false),(8,.bool false),(6,.int .i64 z),(0,.int .i64 z)]) hF (r_assign (hF.at 0 rfl)) rfl rfl rfl rfl fun a hF=>?_
      refine E.nil ?_
      refine wp_ret ?_
      refine E.pastbr ?_
      refine E.pastr ?_
      have bel:=st.bel
      refine bodyPost_ret (res_tmp Tryd.results8 (hF.at 0 rfl)) hF.dfr ?_
      have ez:nmK z=nt4:=by rw[hc31];exact nmK_in (k:=4) (by decide)
      rw[ez]
      exact⟨_,_,rfl,hac,bel⟩
     ·refine E.opv hF (r_bin (hF.at 8 rfl) ev_c eg_scalar (bi_int (ic_eql (c:=false) (dec_ff (by omega))) (by simp))) rfl rfl rfl rfl fun a hF=>?_
      refine E.opv hF (r_assign (hF.at 0 rfl)) rfl rfl rfl rfl fun a hF=>?_
      refine E.nil ?_
      refine wp_cond_false (hF.at 0 rfl) ?_
      refine wp_seq ?_
      refine E.seq ?_
      by_cases hc33:z=5
      ·refine E.opv hF (r_bin (hF.at 10 rfl) ev_c eg_scalar (bi_int (ic_eql (c:=true) (dec_tt (by omega))) (by simp))) rfl rfl rfl rfl fun a hF=>?_
       refine E.opv hF (r_assign (hF.at 0 rfl)) rfl rfl rfl rfl fun a hF=>?_
       refine E.nil ?_
       refine wp_cond_true (hF.at 0 rfl) ?_
       refine wp_seq ?_
       refine E.seq ?_
       refine E.call hF (rgc k14 (map1 ev_c)) (rSplit27_lit nt5 _ (by kernel_rfl) (by decide+kernel)) rfl rfl rfl rfl ?_
       rintro e w34 ⟨ad,cp,rfl,hac,bb⟩
       refine⟨_,rfl,?_⟩
       intro a hF
       replace st:=st.to bb
       clear bb
       refine E.opset (L':=[(2,.slice ad nt5.length cp),(62,.slice ad nt5.length cp),(60,.bool true),(61,.bool true),(57,.bool false),(58,.bool false),(16,.bool false),(17,.bool false),(13,.bool false),(14,.bool false),(10,.bool false),(11,.bool false),(7,.bool false),(8,.bool false),(6,.int .i64 z),(0,.int .i64 z)]) hF (r_assign (hF.at 0 rfl)) rfl rfl rfl rfl fun a hF=>?_
       refine E.nil ?_
       refine wp_ret ?_
       refine E.pastbr ?_
       refine E.pastr ?_
       have bel:=st.bel
       refine bodyPost_ret (res_tmp Tryd.results8 (hF.at 0 rfl)) hF.dfr ?_
       have ez:nmK z=nt5:=by rw[hc33];exact nmK_in (k:=5) (by decide)
       rw[ez]
       exact⟨_,_,rfl,hac,bel⟩
      ·refine E.opv hF (r_bin (hF.at 10 rfl) ev_c eg_scalar (bi_int (ic_eql (c:=false) (dec_ff (by omega))) (by simp))) rfl rfl rfl rfl fun a hF=>?_
       refine E.opv hF (r_assign (hF.at 0 rfl)) rfl rfl rfl rfl fun a hF=>?_
       refine E.nil ?_
       refine wp_cond_false (hF.at 0 rfl) ?_
       refine wp_seq ?_
       refine E.seq ?_
       by_cases hc35:z=6
       ·refine E.opv hF (r_bin (hF.at 12 rfl) ev_c eg_scalar (bi_int (ic_eql (c:=true) (dec_tt (by omega))) (by simp))) rfl rfl rfl rfl fun a hF=>?_
        refine E.opv hF (r_assign (hF.at 0 rfl)) rfl rfl rfl rfl fun a hF=>?_
        refine E.nil ?_
        refine wp_cond_true (hF.at 0 rfl) ?_
        refine wp_seq ?_
        refine E.seq ?_
        refine E.call hF (rgc k14 (map1 ev_c)) (rSplit27_lit nt6 _ (by kernel_rfl) (by decide+kernel)) rfl rfl rfl rfl ?_
        rintro e w36 ⟨ad,cp,rfl,hac,bb⟩
        refine⟨_,rfl,?_⟩
        intro a hF
        replace st:=st.to bb
        clear bb
        refine E.opset (L':=[(2,.slice ad nt6.length cp),(65,.slice ad nt6.length cp),(63,.bool true),(64,.bool true),(60,.bool false),(61,.bool false),(57,.bool false),(58,.bool false),(16,.bool false),(17,.bool false),(13,.bool false),(14,.bool false),(10,.bool false),(11,.bool false),(7,.bool false),(8,.bool false),(6,.int .i64 z),(0,.int .i64 z)]) hF (r_assign (hF.at 0 rfl)) rfl rfl rfl rfl fun a hF=>?_
        refine E.nil ?_
        refine wp_ret ?_
        refine E.pastbr ?_
        refine E.pastr ?_
        have bel:=st.bel
        refine bodyPost_ret (res_tmp Tryd.results8 (hF.at 0 rfl)) hF.dfr ?_
        have ez:nmK z=nt6:=by rw[hc35];exact nmK_in (k:=6) (by decide)
        rw[ez]
        exact⟨_,_,rfl,hac,bel⟩
       ·refine E.opv hF (r_bin (hF.at 12 rfl) ev_c eg_scalar (bi_int (ic_eql (c:=false) (dec_ff (by omega))) (by simp))) rfl rfl rfl rfl fun a hF=>?_
        refine E.opv hF (r_assign (hF.at 0 rfl)) rfl rfl rfl rfl fun a hF=>?_
        refine E.nil ?_
        refine wp_cond_false (hF.at 0 rfl) ?_
        refine wp_seq ?_
        refine E.seq ?_
        by_cases hc37:z=7
        ·refine E.opv hF (r_bin (hF.at 14 rfl) ev_c eg_scalar (bi_int (ic_eql (c:=true) (dec_tt (by omega))) (by simp))) rfl rfl rfl rfl fun a hF=>?_
         refine E.opv hF (r_assign (hF.at 0 rfl)) rfl rfl rfl rfl fun a hF=>?_
         refine E.nil ?_
         refine wp_cond_true (hF.at 0 rfl) ?_
         refine wp_seq ?_
         refine E.seq ?_
         refine E.call hF (rgc k14 (map1 ev_c)) (rSplit27_lit nt7 _ (by kernel_rfl) (by decide+kernel)) rfl rfl rfl rfl ?_
         rintro e w38 ⟨ad,cp,rfl,hac,bb⟩
         refine⟨_,rfl,?_⟩
         intro a hF
         replace st:=st.to bb
         clear bb
         refine E.opset (L':=[(2,.slice ad nt7.length cp),(68,.slice ad nt7.length cp),(66,.bool true),(67,.bool true),(63,.bool false),(64,.bool false),(60,.bool false),(61,.bool false),(57,.bool false),(58,.bool false),(16,.bool false),(17,.bool false),(13,.bool false),(14,.bool false),(10,.bool false),(11,.bool false),(7,.bool false),(8,.bool false),(6,.int .i64 z),(0,.int .i64 z)]) hF (r_assign (hF.at 0 rfl)) rfl rfl rfl rfl fun a hF=>?_
         refine E.nil ?_
         refine wp_ret ?_
         refine E.pastbr ?_
         refine E.pastr ?_
         have bel:=st.bel
         refine bodyPost_ret (res_tmp Tryd.results8 (hF.at 0 rfl)) hF.dfr ?_
         have ez:nmK z=nt7:=by rw[hc37];exact nmK_in (k:=7) (by decide)
         rw[ez]
         exact⟨_,_,rfl,hac,bel⟩
        ·refine E.opv hF (r_bin (hF.at 14 rfl) ev_c eg_scalar (bi_int (ic_eql (c:=false) (dec_ff (by omega))) (by simp))) rfl rfl rfl rfl fun a hF=>?_
         refine E.opv hF (r_assign (hF.at 0 rfl)) rfl rfl rfl rfl fun a hF=>?_
         refine E.nil ?_
         refine wp_cond_false (hF.at 0 rfl) ?_
         refine wp_skip ?_
         refine E.blk ?_
         refine E.norm ?_
         refine wp_seq ?_
         refine E.seq ?_
         obtain⟨glu39,w40,ge,hr,bb,hpa⟩:=bsU0_t w w.heap.size st.bel.size
         refine E.opv hF (r_buildSlice (by simp) hr) rfl rfl rfl rfl fun a hF=>?_
         replace st:=(st.to bb).grow0 hpa AccU.gc AccU.gl (st.gnew ge)
         clear hr bb hpa ge
         refine E.opset (L':=[(2,.slice (some ⟨glu39,0,none⟩) 0 0),(69,.slice (some ⟨glu39,0,none⟩) 0 0),(66,.bool false),(67,.bool false),(63,.bool false),(64,.bool false),(60,.bool false),(61,.bool false),(57,.bool false),(58,.bool false),(16,.bool false),(17,.bool false),(13,.bool false),(14,.bool false),(10,.bool false),(11,.bool false),(7,.bool false),(8,.bool false),(6,.int .i64 z),(0,.int .i64 z)]) hF (r_assign (hF.at 0 rfl)) rfl rfl rfl rfl fun a hF=>?_
         refine E.nil ?_
         refine wp_ret ?_
         have bel:=st.bel
         refine bodyPost_ret (res_tmp Tryd.results8 (hF.at 0 rfl)) hF.dfr ?_
         have hz:¬(0≤z∧z<8):=by omega
         rw[nmK_out hz]
         exact⟨_,_,rfl,st.g,bel⟩
theorem rFind27_row (z:Int) (L:List (List Nat)) (hA:∀w,Calls Tryd.prog 8 #[.int .i64 z] w (RowsP w L)) (hfew:L.length≤30) (hp:0<L.length) (hnd:L.Nodup) (hok:∀xs∈L,0<xs.length∧xs.length≤30∧okb 256 xs) (xs:List Nat) (hx:okb 256 xs) (hl:xs.length≤1000000) (w:World):
 Calls Tryd.prog 12 #[.int .i64 z,.string (bstr xs)] w (ValPost w (.int .i64 (fdA L xs))):=by
 have st:=St.start w
 refine E.enter (nt:=26) (L:=[(0,.int .i64 z),(1,.string (bstr (xs)))]) Tryd.func12 rfl rfl rfl (args_cons (i:=0) rfl (args_cons (i:=1) rfl args_nil)) ?_
 intro a hF
 refine wp_seq ?_
 refine E.seq ?_
 refine E.opv hF (r_assign ev_c) rfl rfl rfl rfl fun a hF=>?_
 refine E.nil ?_
 refine wp_seq ?_
 refine E.seq ?_
 refine E.opv hF (r_assign ev_c) rfl rfl rfl rfl fun a hF=>?_
 refine E.nil ?_
 refine wp_seq ?_
 refine wp_seq ?_
 refine E.seq ?_
 refine E.opv hF (r_move (hF.at 2 rfl)) rfl rfl rfl rfl fun a hF=>?_
 refine E.call hF (rgc k8 (map1 (hF.at 0 rfl))) (hA _) rfl rfl rfl rfl ?_
 rintro e w1 ⟨adgr,cpgr,rfl,hac,bb⟩
 refine⟨_,rfl,?_⟩
 intro a hF
 obtain⟨gr,moregr,rfl, -,hggr,hbk⟩:=hac.row hp
 have s0:=st
 replace st:=(st.to bb).push hbk (Nat.le_trans s0.bel.size hggr) (s0.ne hggr)
 clear hac hbk bb s0
 refine E.opv hF (r_builtin (map1 (hF.at 0 rfl)) bl_strs) rfl rfl rfl rfl fun a hF=>?_
 refine E.opv hF (r_move ev_c) rfl rfl rfl rfl fun a hF=>?_
 refine E.nil ?_
 refine wp_block ?_
 refine E.loop (fun mq a wv=>∃(i:Nat) (at0:Int),i≤L.length∧at0=fdA (L.take i) xs∧Fr 26 a [(11,.int .i64 ((i:Nat):Int)),(10,.int .i64 (((L.length:Nat)):Int)),(9,.slice (some ⟨gr,0,none⟩) L.length cpgr),(5,.int .i64 at0),(4,.int .i64 0),(1,.string (bstr (xs)))]∧St w wv [(gr,strC L++moregr)] []∧mq=L.length-i) ((L.length-0)) ?_ ?_
 ·exact⟨0,(-1),(Nat.zero_le _),(fdA_nil xs).symm,Fr.pick (L':=[(11,.int .i64 ((0:Nat):Int)),(10,.int .i64 (((L.length:Nat)):Int)),(9,.slice (some ⟨gr,0,none⟩) L.length cpgr),(5,.int .i64 (-1)),(4,.int .i64 0),(1,.string (bstr (xs)))]) hF [0,1,2,4,5,7] rfl,st.pick [0] [] rfl rfl (by decide),rfl⟩
 ·rintro mq a w2 ⟨i,at0,hi,hat,hF,st,hm⟩
  by_cases hlt:i<L.length
  ·refine wp_seq ?_
   refine E.seq ?_
   refine E.opv hF (r_bin (hF.at 0 rfl) (hF.at 1 rfl) eg_scalar (bi_int (ic_lss (c:=true) (dec_tt (by omega))) (by simp))) rfl rfl rfl rfl fun a hF=>?_
   refine E.nil ?_
   refine wp_seq ?_
   refine wp_cond_true (hF.at 0 rfl) ?_
   refine wp_skip ?_
   refine E.norm ?_
   refine wp_seq ?_
   refine wp_block ?_
   refine wp_seq ?_
   refine E.seq ?_
   refine E.opv hF (r_move (hF.at 1 rfl)) rfl rfl rfl rfl fun a hF=>?_
   refine E.opv hF (r_index (hF.at 4 rfl) (hF.at 2 rfl) (ix_strs (i:=i) (by omega) (by omega))) rfl rfl rfl rfl fun a hF=>?_
   refine E.opv hF (r_load (hF.at 0 rfl) (ldb_str (v:= .string (bstr (atL L i))) (st.bk 0 rfl) (strC_at (atL_at (by omega)) _))) rfl rfl rfl rfl fun a hF=>?_
   refine E.opv hF (r_assign (hF.at 2 rfl)) rfl rfl rfl rfl fun a hF=>?_
   refine E.opv hF (r_assign (hF.at 1 rfl)) rfl rfl rfl rfl fun a hF=>?_
   refine E.nil ?_
   refine wp_seq ?_
   refine E.seq ?_
   refine E.opv hF (r_move (hF.at 0 rfl)) rfl rfl rfl rfl fun a hF=>?_
   refine E.opv hF (r_move (hF.at 12 rfl)) rfl rfl rfl rfl fun a hF=>?_
   by_cases hc3:atL L i=xs
   ·refine E.opv hF (r_bin (hF.at 1 rfl) (hF.at 0 rfl) eg_str (sb_eq (xs:=(atL L i)) (ys:=(xs)) (sw_t hc3))) rfl rfl rfl rfl fun a hF=>?_
    refine E.opv hF (r_move (hF.at 0 rfl)) rfl rfl rfl rfl fun a hF=>?_
    refine E.opvg hF (r_move (hF.at 13 rfl)) (wanted_by rfl rfl (hF.at 0 rfl) rfl) rfl rfl rfl fun a hF=>?_
    by_cases hc4:at0<0
    ·refine E.opvg hF (r_bin (hF.at 0 rfl) ev_c eg_scalar (bi_int (ic_lss (c:=true) (dec_tt (by omega))) (by simp))) (wanted_by rfl rfl (hF.at 1 rfl) rfl) rfl rfl rfl fun a hF=>?_
     refine E.opv hF (r_pick_t (hF.at 2 rfl) (hF.at 0 rfl)) rfl rfl rfl rfl fun a hF=>?_
     refine E.nil ?_
     refine wp_cond_true (hF.at 0 rfl) ?_
     refine E.seq ?_
     refine E.opv hF (r_move (hF.at 8 rfl)) rfl rfl rfl rfl fun a hF=>?_
     refine E.opset (L':=[(5,.int .i64 ((i:Nat):Int)),(23,.int .i64 ((i:Nat):Int)),(22,.bool true),(21,.bool true),(20,.int .i64 at0),(19,.bool true),(18,.bool true),(17,.string (bstr (xs))),(16,.string (bstr (atL L i))),(7,.string (bstr (atL L i))),(6,.int .i64 ((i:Nat):Int)),(15,.string (bstr (atL L i))),(14,.pointer (some ⟨gr,i,none⟩)),(13,.int .i64 ((i:Nat):Int)),(12,.bool true),(11,.int .i64 ((i:Nat):Int)),(10,.int .i64 (((L.length:Nat)):Int)),(9,.slice (some ⟨gr,0,none⟩) L.length cpgr),(4,.int .i64 0),(1,.string (bstr (xs)))]) hF (r_assign (hF.at 0 rfl)) rfl rfl rfl rfl fun a hF=>?_
     refine E.nil0 ?_
     refine E.blk ?_
     refine E.norm ?_
     refine E.seq ?_
     refine E.opv hF (r_bin (hF.at 15 rfl) ev_c eg_scalar (ia_add (by omega) (by omega))) rfl rfl rfl rfl fun a hF=>?_
     refine E.opset (L':=[(11,.int .i64 (((i:Nat):Int)+1)),(24,.int .i64 (((i:Nat):Int)+1)),(5,.int .i64 ((i:Nat):Int)),(23,.int .i64 ((i:Nat):Int)),(22,.bool true),(21,.bool true),(20,.int .i64 at0),(19,.bool true),(18,.bool true),(17,.string (bstr (xs))),(16,.string (bstr (atL L i))),(7,.string (bstr (atL L i))),(6,.int .i64 ((i:Nat):Int)),(15,.string (bstr (atL L i))),(14,.pointer (some ⟨gr,i,none⟩)),(13,.int .i64 ((i:Nat):Int)),(12,.bool true),(10,.int .i64 (((L.length:Nat)):Int)),(9,.slice (some ⟨gr,0,none⟩) L.length cpgr),(4,.int .i64 0),(1,.string (bstr (xs)))]) hF (r_move (hF.at 0 rfl)) rfl rfl rfl rfl fun a hF=>?_
     refine E.nil0 ?_
     refine E.norm ?_
     replace hF:Fr 26 a [(11,.int .i64 ((i+1:Nat):Int)),(24,.int .i64 (((i:Nat):Int)+1)),(5,.int .i64 ((i:Nat):Int)),(23,.int .i64 ((i:Nat):Int)),(22,.bool true),(21,.bool true),(20,.int .i64 at0),(19,.bool true),(18,.bool true),(17,.string (bstr (xs))),(16,.string (bstr (atL L i))),(7,.string (bstr (atL L i))),(6,.int .i64 ((i:Nat):Int)),(15,.string (bstr (atL L i))),(14,.pointer (some ⟨gr,i,none⟩)),(13,.int .i64 ((i:Nat):Int)),(12,.bool true),(10,.int .i64 (((L.length:Nat)):Int)),(9,.slice (some ⟨gr,0,none⟩) L.length cpgr),(4,.int .i64 0),(1,.string (bstr (xs)))]:=by rw[show((i+1:Nat):Int)=((i:Nat):Int)+1 by omega];exact hF
     exact⟨(L.length-(i+1)),by omega,⟨(i+1),((i:Nat):Int),(by omega),(fdA_hit hlt hc3 (by rw[←hat];exact hc4)),Fr.pick (L':=[(11,.int .i64 ((i+1:Nat):Int)),(10,.int .i64 (((L.length:Nat)):Int)),(9,.slice (some ⟨gr,0,none⟩) L.length cpgr),(5,.int .i64 ((i:Nat):Int)),(4,.int .i64 0),(1,.string (bstr (xs)))]) hF [0,17,18,2,19,20] rfl,st.pick [0] [] rfl rfl (by decide),rfl⟩⟩
    ·refine E.opvg hF (r_bin (hF.at 0 rfl) ev_c eg_scalar (bi_int (ic_lss (c:=false) (dec_ff (by omega))) (by simp))) (wanted_by rfl rfl (hF.at 1 rfl) rfl) rfl rfl rfl fun a hF=>?_
     refine E.opv hF (r_pick_t (hF.at 2 rfl) (hF.at 0 rfl)) rfl rfl rfl rfl fun a hF=>?_
     refine E.nil ?_
     refine wp_cond_false (hF.at 0 rfl) ?_
     refine wp_skip ?_
     refine E.blk ?_
     refine E.norm ?_
     refine E.seq ?_
     refine E.opv hF (r_bin (hF.at 13 rfl) ev_c eg_scalar (ia_add (by omega) (by omega))) rfl rfl rfl rfl fun a hF=>?_
     refine E.opset (L':=[(11,.int .i64 (((i:Nat):Int)+1)),(24,.int .i64 (((i:Nat):Int)+1)),(22,.bool false),(21,.bool false),(20,.int .i64 at0),(19,.bool true),(18,.bool true),(17,.string (bstr (xs))),(16,.string (bstr (atL L i))),(7,.string (bstr (atL L i))),(6,.int .i64 ((i:Nat):Int)),(15,.string (bstr (atL L i))),(14,.pointer (some ⟨gr,i,none⟩)),(13,.int .i64 ((i:Nat):Int)),(12,.bool true),(10,.int .i64 (((L.length:Nat)):Int)),(9,.slice (some ⟨gr,0,none⟩) L.length cpgr),(5,.int .i64 at0),(4,.int .i64 0),(1,.string (bstr (xs)))]) hF (r_move (hF.at 0 rfl)) rfl rfl rfl rfl fun a hF=>?_
     refine E.nil0 ?_
     refine E.norm ?_
     replace hF:Fr 26 a [(11,.int .i64 ((i+1:Nat):Int)),(24,.int .i64 (((i:Nat):Int)+1)),(22,.bool false),(21,.bool false),(20,.int .i64 at0),(19,.bool true),(18,.bool true),(17,.string (bstr (xs))),(16,.string (bstr (atL L i))),(7,.string (bstr (atL L i))),(6,.int .i64 ((i:Nat):Int)),(15,.string (bstr (atL L i))),(14,.pointer (some ⟨gr,i,none⟩)),(13,.int .i64 ((i:Nat):Int)),(12,.bool true),(10,.int .i64 (((L.length:Nat)):Int)),(9,.slice (some ⟨gr,0,none⟩) L.length cpgr),(5,.int .i64 at0),(4,.int .i64 0),(1,.string (bstr (xs)))]:=by rw[show((i+1:Nat):Int)=((i:Nat):Int)+1 by omega];exact hF
     exact⟨(L.length-(i+1)),by omega,⟨(i+1),at0,(by omega),(hat.trans (fdA_miss hlt (.inr (by rw[←hat];exact hc4)))),Fr.pick (L':=[(11,.int .i64 ((i+1:Nat):Int)),(10,.int .i64 (((L.length:Nat)):Int)),(9,.slice (some ⟨gr,0,none⟩) L.length cpgr),(5,.int .i64 at0),(4,.int .i64 0),(1,.string (bstr (xs)))]) hF [0,15,16,17,18,19] rfl,st.pick [0] [] rfl rfl (by decide),rfl⟩⟩
   ·refine E.opv hF (r_bin (hF.at 1 rfl) (hF.at 0 rfl) eg_str (sb_eq (xs:=(atL L i)) (ys:=(xs)) (sw_f hc3 (hok _ (atL_mem hlt)).2.2 hx))) rfl rfl rfl rfl fun a hF=>?_
    refine E.opv hF (r_move (hF.at 0 rfl)) rfl rfl rfl rfl fun a hF=>?_
    refine E.unwanted hF (wanted_by rfl rfl (hF.at 0 rfl) rfl) rfl rfl rfl fun a hF=>?_
    refine E.unwanted hF (wanted_by rfl rfl (hF.at 1 rfl) rfl) rfl rfl rfl fun a hF=>?_
    refine E.opv hF (r_pick_f (hF.at 2 rfl) ev_c) rfl rfl rfl rfl fun a hF=>?_
    refine E.nil ?_
    refine wp_cond_false (hF.at 0 rfl) ?_
    refine wp_skip ?_
    refine E.blk ?_
    refine E.norm ?_
    refine E.seq ?_
    refine E.opv hF (r_bin (hF.at 13 rfl) ev_c eg_scalar (ia_add (by omega) (by omega))) rfl rfl rfl rfl fun a hF=>?_
    refine E.opset (L':=[(11,.int .i64 (((i:Nat):Int)+1)),(24,.int .i64 (((i:Nat):Int)+1)),(22,.bool false),(21,undef),(20,undef),(19,.bool false),(18,.bool false),(17,.string (bstr (xs))),(16,.string (bstr (atL L i))),(7,.string (bstr (atL L i))),(6,.int .i64 ((i:Nat):Int)),(15,.string (bstr (atL L i))),(14,.pointer (some ⟨gr,i,none⟩)),(13,.int .i64 ((i:Nat):Int)),(12,.bool true),(10,.int .i64 (((L.length:Nat)):Int)),(9,.slice (some ⟨gr,0,none⟩) L.length cpgr),(5,.int .i64 at0),(4,.int .i64 0),(1,.string (bstr (xs)))]) hF (r_move (hF.at 0 rfl)) rfl rfl rfl rfl fun a hF=>?_
    refine E.nil0 ?_
    refine E.norm ?_
    replace hF:Fr 26 a [(11,.int .i64 ((i+1:Nat):Int)),(24,.int .i64 (((i:Nat):Int)+1)),(22,.bool false),(21,undef),(20,undef),(19,.bool false),(18,.bool false),(17,.string (bstr (xs))),(16,.string (bstr (atL L i))),(7,.string (bstr (atL L i))),(6,.int .i64 ((i:Nat):Int)),(15,.string (bstr (atL L i))),(14,.pointer (some ⟨gr,i,none⟩)),(13,.int .i64 ((i:Nat):Int)),(12,.bool true),(10,.int .i64 (((L.length:Nat)):Int)),(9,.slice (some ⟨gr,0,none⟩) L.length cpgr),(5,.int .i64 at0),(4,.int .i64 0),(1,.string (bstr (xs)))]:=by rw[show((i+1:Nat):Int)=((i:Nat):Int)+1 by omega];exact hF
    exact⟨(L.length-(i+1)),by omega,⟨(i+1),at0,(by omega),(hat.trans (fdA_miss hlt (.inl hc3))),Fr.pick (L':=[(11,.int .i64 ((i+1:Nat):Int)),(10,.int .i64 (((L.length:Nat)):Int)),(9,.slice (some ⟨gr,0,none⟩) L.length cpgr),(5,.int .i64 at0),(4,.int .i64 0),(1,.string (bstr (xs)))]) hF [0,15,16,17,18,19] rfl,st.pick [0] [] rfl rfl (by decide),rfl⟩⟩
  ·refine wp_seq ?_
   refine E.seq ?_
   refine E.opv hF (r_bin (hF.at 0 rfl) (hF.at 1 rfl) eg_scalar (bi_int (ic_lss (c:=false) (dec_ff (by omega))) (by simp))) rfl rfl rfl rfl fun a hF=>?_
   refine E.nil ?_
   refine wp_seq ?_
   refine wp_cond_false (hF.at 0 rfl) ?_
   refine wp_exit ?_
   refine E.past ?_
   refine E.past ?_
   refine E.out (id:=0) ?_
   refine E.norm ?_
   refine wp_seq ?_
   refine E.seq ?_
   refine E.opv hF (r_move (hF.at 4 rfl)) rfl rfl rfl rfl fun a hF=>?_
   refine E.opset (L':=[(4,.int .i64 at0),(25,.int .i64 at0),(12,.bool false),(11,.int .i64 ((i:Nat):Int)),(10,.int .i64 (((L.length:Nat)):Int)),(9,.slice (some ⟨gr,0,none⟩) L.length cpgr),(5,.int .i64 at0),(1,.string (bstr (xs)))]) hF (r_assign (hF.at 0 rfl)) rfl rfl rfl rfl fun a hF=>?_
   refine E.nil ?_
   refine wp_ret ?_
   have bel:=st.bel
   refine bodyPost_ret (res_tmp Tryd.results12 (hF.at 0 rfl)) hF.dfr ?_
   rw[List.take_of_length_le (by omega)] at hat
   rw[←hat]
   exact⟨rfl,bel⟩
theorem rFind27_nil (z:Int) (hA:∀w,Calls Tryd.prog 8 #[.int .i64 z] w (RowsP w [])) (xs:List Nat) (hx:okb 256 xs) (hl:xs.length≤1000000) (w:World):
 Calls Tryd.prog 12 #[.int .i64 z,.string (bstr xs)] w (ValPost w (.int .i64 (fdA [] xs))):=by
 have h0:([]:List (List Nat)).length =0:=rfl
 have st:=St.start w
 refine E.enter (nt:=26) (L:=[(0,.int .i64 z),(1,.string (bstr (xs)))]) Tryd.func12 rfl rfl rfl (args_cons (i:=0) rfl (args_cons (i:=1) rfl args_nil)) ?_
 intro a hF
 refine wp_seq ?_
 refine E.seq ?_
 refine E.opv hF (r_assign ev_c) rfl rfl rfl rfl fun a hF=>?_
 refine E.nil ?_
 refine wp_seq ?_
 refine E.seq ?_
 refine E.opv hF (r_assign ev_c) rfl rfl rfl rfl fun a hF=>?_
 refine E.nil ?_
 refine wp_seq ?_
 refine wp_seq ?_
 refine E.seq ?_
 refine E.opv hF (r_move (hF.at 2 rfl)) rfl rfl rfl rfl fun a hF=>?_
 refine E.call hF (rgc k8 (map1 (hF.at 0 rfl))) (hA _) rfl rfl rfl rfl ?_
 rintro e w1 ⟨adgr,cpgr,rfl,hac,bb⟩
 refine⟨_,rfl,?_⟩
 intro a hF
 replace st:=st.to bb
 clear bb hac
 refine E.opv hF (r_builtin (map1 (hF.at 0 rfl)) bl_strs) rfl rfl rfl rfl fun a hF=>?_
 refine E.opv hF (r_move ev_c) rfl rfl rfl rfl fun a hF=>?_
 refine E.nil ?_
 refine wp_block ?_
 refine E.loop (fun mq a wv=>∃(i:Nat) (at0:Int),i≤([]:List (List Nat)).length ∧at0=fdA (([]:List (List Nat)).take i) xs∧Fr 26 a [(11,.int .i64 ((i:Nat):Int)),(10,.int .i64 (((([]:List (List Nat)).length :Nat)):Int)),(9,.slice adgr ([]:List (List Nat)).length cpgr),(5,.int .i64 at0),(4,.int .i64 0),(1,.string (bstr (xs)))]∧St w wv [] []∧mq=([]:List (List Nat)).length - i) ((([]:List (List Nat)).length - 0)) ?_ ?_
 ·exact⟨0,(-1),(Nat.zero_le _),(fdA_nil xs).symm,Fr.pick (L':=[(11,.int .i64 ((0:Nat):Int)),(10,.int .i64 (((([]:List (List Nat)).length :Nat)):Int)),(9,.slice adgr ([]:List (List Nat)).length cpgr),(5,.int .i64 (-1)),(4,.int .i64 0),(1,.string (bstr (xs)))]) hF [0,1,2,4,5,7] rfl,st.pick [] [] rfl rfl (by decide),rfl⟩
 ·rintro mq a w2 ⟨i,at0,hi,hat,hF,st,hm⟩
  refine wp_seq ?_
  refine E.seq ?_
  refine E.opv hF (r_bin (hF.at 0 rfl) (hF.at 1 rfl) eg_scalar (bi_int (ic_lss (c:=false) (dec_ff (by omega))) (by simp))) rfl rfl rfl rfl fun a hF=>?_
  refine E.nil ?_
  refine wp_seq ?_
  refine wp_cond_false (hF.at 0 rfl) ?_
  refine wp_exit ?_
  refine E.past ?_
  refine E.past ?_
  refine E.out (id:=0) ?_
  refine E.norm ?_
  refine wp_seq ?_
  refine E.seq ?_
  refine E.opv hF (r_move (hF.at 4 rfl)) rfl rfl rfl rfl fun a hF=>?_
  refine E.opset (L':=[(4,.int .i64 at0),(25,.int .i64 at0),(12,.bool false),(11,.int .i64 ((i:Nat):Int)),(10,.int .i64 (((([]:List (List Nat)).length :Nat)):Int)),(9,.slice adgr ([]:List (List Nat)).length cpgr),(5,.int .i64 at0),(1,.string (bstr (xs)))]) hF (r_assign (hF.at 0 rfl)) rfl rfl rfl rfl fun a hF=>?_
  refine E.nil ?_
  refine wp_ret ?_
  have bel:=st.bel
  refine bodyPost_ret (res_tmp Tryd.results12 (hF.at 0 rfl)) hF.dfr ?_
  rw[List.take_of_length_le (by omega)] at hat
  rw[←hat]
  exact⟨rfl,bel⟩
theorem rFind27_any (z:Int) (xs:List Nat) (hx:okb 256 xs) (hl:xs.length≤1000000) (w:World):Calls Tryd.prog 12 #[.int .i64 z,.string (bstr xs)] w (ValPost w (.int .i64 (fdA (nmK z) xs))):=by
 rcases Nat.eq_zero_or_pos (nmK z).length with h|h
 ·have e:=List.eq_nil_of_length_eq_zero h
  rw[e]
  exact rFind27_nil z (fun w=>e▸rAll27_any z w) xs hx hl w
 ·exact rFind27_row z _ (fun w=>rAll27_any z w) (nmK_few z) h (nmK_nodup z) (nmK_xs z) xs hx hl w
end Go.Proofs.YtdkmjclbhfnegaaDoor
