import Derived.Test.YtdkmjclbhfnegaaDoorKA40
import Derived.Test.YtdkmjclbhfnegaaDoorKA43
namespace Go.Proofs.YtdkmjclbhfnegaaDoor
open Go.RowKit
set_option maxRecDepth 100000
set_option linter.unusedVariables false
set_option maxHeartbeats 8000000
theorem nmL_ne {k i:Nat} (hk:k<8) (hi:i<(nmL k).length):¬atL (nmL k) i=[]:=fun e=>by
 have h:=(nm_xs hk _ (atL_mem hi)).1
 rw[e] at h
 exact absurd h (by decide)
theorem wName_at (k:Nat) (hk:k<8) (i:Nat) (hi:i<(nmL k).length) (w:World) (hT:TabA w):Calls Tryd.prog 9 #[.int .i64 ((k:Nat):Int),.int .i64 ((i:Nat):Int)] w (ValPost w (.string (bstr (atL (nmL k) i)))):=
 wName_in _ _ (fun w hT=>wAll_in k hk w hT) (nm_few hk) i hi w hT
theorem idx_at {L:List (List Nat)} (h:L.Nodup) {i:Nat} (hi:i<L.length):L.idxOf (atL L i)=i:=by
 have e:atL L i=L[i]:=by have:=atL_at hi;rw[List.getElem?_eq_getElem hi] at this;injection this with this;exact this.symm
 rw[e]
 exact h.idxOf_getElem i hi
theorem wFind_at (k:Nat) (hk:k<8) (i:Nat) (hi:i<(nmL k).length) (w:World) (hT:TabA w):Calls Tryd.prog 11 #[.int .i64 ((k:Nat):Int),.string (bstr (atL (nmL k) i))] w (ValPost w (.tuple #[.int .i64 ((i:Nat):Int),.bool true])):=by
 have hx:=nm_xs hk _ (atL_mem hi)
 have e:=wFind_row _ _ (fun w hT=>wAll_in k hk w hT) (nm_few hk) (nm_pos hk) (nm_nodup hk) (nm_xs hk) _ hx.2.2 (by have:=hx.2.1;omega) w hT
 rwa[show fdI (nmL k) (atL (nmL k) i)=((i:Nat):Int) by unfold fdI;rw[if_pos (atL_mem hi),idx_at (nm_nodup hk) hi],show fdB (nmL k) (atL (nmL k) i)=true from decide_eq_true (atL_mem hi)] at e
theorem wordsBack_walk (a0 a1 a2:Int) (w:World) (hT:TabA w):
 Calls Tryd.prog 5 #[.int .i64 a0,.int .i64 a1,.int .i64 a2] w (ValPost w (.bool true)):=by
 have st:=St.start w
 refine E.enter (nt:=61) (L:=[(0,.int .i64 a0),(1,.int .i64 a1),(2,.int .i64 a2)]) Tryd.func5 rfl rfl rfl (args_cons (i:=0) rfl (args_cons (i:=1) rfl (args_cons (i:=2) rfl args_nil))) ?_
 intro a hF
 refine wp_seq ?_
 refine E.seq ?_
 refine E.opv hF (r_assign ev_c) rfl rfl rfl rfl fun a hF=>?_
 refine E.nil ?_
 refine wp_seq ?_
 refine wp_seq ?_
 refine E.seq ?_
 refine S.callx st hF (rgc k6 map0) (wAwake_any _ (hT.below st.bel)) rfl rfl rfl rfl fun w1 a st hF=>?_
 refine E.opv hF (r_un (hF.at 0 rfl) (bn_not _ false rfl)) rfl rfl rfl rfl fun a hF=>?_
 refine E.nil ?_
 refine wp_cond_false (hF.at 0 rfl) ?_
 refine wp_skip ?_
 refine E.norm ?_
 refine wp_seq ?_
 refine E.seq ?_
 refine E.opv hF (r_move (hF.at 3 rfl)) rfl rfl rfl rfl fun a hF=>?_
 refine E.opv hF (r_bin (hF.at 0 rfl) ev_c eg_scalar (id_and (n:=8) (by decide) (d:=256) (by decide) (by decide))) rfl rfl rfl rfl fun a hF=>?_
 refine E.opv hF (r_bin (hF.at 0 rfl) ev_c eg_scalar (id_remn (a:=a0%256) (b:=8) (by omega) (by omega))) rfl rfl rfl rfl fun a hF=>?_
 refine E.opset (L':=[(0,.int .i64 ((a0%256)%8)),(16,.int .i64 ((a0%256)%8)),(15,.int .i64 (a0%256)),(14,.int .i64 a0),(13,.bool false),(12,.bool true),(6,.bool false),(1,.int .i64 a1),(2,.int .i64 a2)]) hF (r_assign (hF.at 0 rfl)) rfl rfl rfl rfl fun a hF=>?_
 obtain⟨kk,hkk,hk⟩:∃kk:Nat,(a0%256)%8=((kk:Nat):Int)∧kk<8:=⟨((a0%256)%8).toNat,by omega,by omega⟩
 replace hF:Fr 61 a [(0,.int .i64 ((kk:Nat):Int)),(16,.int .i64 ((a0%256)%8)),(15,.int .i64 (a0%256)),(14,.int .i64 a0),(13,.bool false),(12,.bool true),(6,.bool false),(1,.int .i64 a1),(2,.int .i64 a2)]:=by rw[←hkk];exact hF
 have hp:=nm_pos hk
 have hfew:=nm_few hk
 refine E.nil ?_
 refine wp_seq ?_
 refine E.seq ?_
 refine E.opv hF (r_move (hF.at 0 rfl)) rfl rfl rfl rfl fun a hF=>?_
 refine E.call hF (rgc k7 (map1 (hF.at 0 rfl))) (wAll_in kk hk _ (hT.below st.bel)) rfl rfl rfl rfl ?_
 rintro e w2 ⟨adgr,cpgr,rfl,hac,bb⟩
 refine⟨_,rfl,?_⟩
 intro a hF
 replace st:=st.to bb
 clear bb hac
 refine E.opv hF (r_builtin (map1 (hF.at 0 rfl)) bl_strs) rfl rfl rfl rfl fun a hF=>?_
 refine E.opv hF (r_assign (hF.at 0 rfl)) rfl rfl rfl rfl fun a hF=>?_
 refine E.nil ?_
 refine wp_seq ?_
 refine wp_seq ?_
 refine E.seq ?_
 refine E.opv hF (r_move (hF.at 0 rfl)) rfl rfl rfl rfl fun a hF=>?_
 refine E.opv hF (r_bin (hF.at 0 rfl) ev_c eg_scalar (bi_int (ic_eql (c:=false) (dec_ff (by omega))) (by simp))) rfl rfl rfl rfl fun a hF=>?_
 refine E.nil ?_
 refine wp_cond_false (hF.at 0 rfl) ?_
 refine wp_skip ?_
 refine E.norm ?_
 refine wp_seq ?_
 have hv0:=hF.at 13 rfl
 replace hF:=Fr.pick (L':=[(21,.bool false),(20,.int .i64 ((((nmL kk).length :Nat)):Int)),(7,.int .i64 ((((nmL kk).length :Nat)):Int)),(19,.int .i64 ((((nmL kk).length :Nat)):Int)),(18,.slice adgr (nmL kk).length cpgr),(17,.int .i64 ((kk:Nat):Int)),(0,.int .i64 ((kk:Nat):Int)),(16,.int .i64 ((a0%256)%8)),(15,.int .i64 (a0%256)),(14,.int .i64 a0),(13,.bool false),(12,.bool true),(6,.bool false),(2,.int .i64 a2)]) hF [0,1,2,3,4,5,6,7,8,9,10,11,12,14] rfl
 refine E.rgap 9 8 0 mixed hF hv0 [22,23,24,25,26,27,28,29,1] [_,.ex (.int .i64 (a1%256)),_,.ex (.int .i64 ((a1%256)%((((nmL kk).length :Nat)):Int))),_,.ex (.int .i64 (a2%256)),_,.ex (.int .i64 ((a2%256)%((((nmL kk).length :Nat)):Int))),.ex (.int .i64 ((a1%256)%((((nmL kk).length :Nat)):Int)))] [] trivial (by decide+kernel) rfl rfl rfl rfl ⟨rm 0 rfl,(by intro a' w' hF' hb hd;have e22:=sHe hd 0 22 rfl rfl rfl rfl;exact dv0 (r_bin e22 ev_c eg_scalar (id_and (n:=8) (by decide) (d:=256) (by decide) (by decide))) rfl rfl rfl),rm 2 rfl,(by intro a' w' hF' hb hd;have e23:=sHe hd 0 23 rfl rfl rfl rfl;have e24:=sHe hd 1 24 rfl rfl rfl rfl;exact dv0 (r_bin e23 e24 eg_scalar (id_remn (a:=a1%256) (b:=((((nmL kk).length :Nat)):Int)) (by omega) (by omega))) rfl rfl rfl),rm 13 rfl,(by intro a' w' hF' hb hd;have e26:=sHe hd 0 26 rfl rfl rfl rfl;exact dv0 (r_bin e26 ev_c eg_scalar (id_and (n:=8) (by decide) (d:=256) (by decide) (by decide))) rfl rfl rfl),rm 2 rfl,(by intro a' w' hF' hb hd;have e27:=sHe hd 0 27 rfl rfl rfl rfl;have e28:=sHe hd 1 28 rfl rfl rfl rfl;exact dv0 (r_bin e27 e28 eg_scalar (id_remn (a:=a2%256) (b:=((((nmL kk).length :Nat)):Int)) (by omega) (by omega))) rfl rfl rfl),(by intro a' w' hF' hb hd;have e25:=sHe hd 0 25 rfl rfl rfl rfl;exact dv0 (r_assign e25) rfl rfl rfl),trivial⟩ ?_
 intro a w3 hF bb hall hne
 replace st:=st.to bb
 replace hF:=rE hall hF 7 rfl rfl
 replace hF:=rE hall hF 8 rfl rfl
 clear hall bb hne hv0
 refine E.opset (L':=[(2,.int .i64 ((a2%256)%((((nmL kk).length :Nat)):Int))),(1,.int .i64 ((a1%256)%((((nmL kk).length :Nat)):Int))),(29,.int .i64 ((a2%256)%((((nmL kk).length :Nat)):Int))),(21,.bool false),(20,.int .i64 ((((nmL kk).length :Nat)):Int)),(7,.int .i64 ((((nmL kk).length :Nat)):Int)),(19,.int .i64 ((((nmL kk).length :Nat)):Int)),(18,.slice adgr (nmL kk).length cpgr),(17,.int .i64 ((kk:Nat):Int)),(0,.int .i64 ((kk:Nat):Int)),(16,.int .i64 ((a0%256)%8)),(15,.int .i64 (a0%256)),(14,.int .i64 a0),(13,.bool false),(12,.bool true),(6,.bool false)]) hF (r_assign (hF.at 1 rfl)) rfl rfl rfl rfl fun a hF=>?_
 obtain⟨ii,hi0,hii⟩:∃m:Nat,(a1%256)%((((nmL kk).length :Nat)):Int)=((m:Nat):Int)∧m<(nmL kk).length :=mod_nat _ hp
 obtain⟨jj,hj0,hjj⟩:∃m:Nat,(a2%256)%((((nmL kk).length :Nat)):Int)=((m:Nat):Int)∧m<(nmL kk).length :=mod_nat _ hp
 replace hF:Fr 61 a [(2,.int .i64 ((jj:Nat):Int)),(1,.int .i64 ((ii:Nat):Int)),(29,.int .i64 ((a2%256)%((((nmL kk).length :Nat)):Int))),(21,.bool false),(20,.int .i64 ((((nmL kk).length :Nat)):Int)),(7,.int .i64 ((((nmL kk).length :Nat)):Int)),(19,.int .i64 ((((nmL kk).length :Nat)):Int)),(18,.slice adgr (nmL kk).length cpgr),(17,.int .i64 ((kk:Nat):Int)),(0,.int .i64 ((kk:Nat):Int)),(16,.int .i64 ((a0%256)%8)),(15,.int .i64 (a0%256)),(14,.int .i64 a0),(13,.bool false),(12,.bool true),(6,.bool false)]:=by rw[←hi0];rw[←hj0];exact hF
 refine E.nil ?_
 refine wp_seq ?_
 refine E.seq ?_
 refine E.opv hF (r_move (hF.at 9 rfl)) rfl rfl rfl rfl fun a hF=>?_
 refine E.opv hF (r_move (hF.at 2 rfl)) rfl rfl rfl rfl fun a hF=>?_
 refine S.callx st hF (rgc k9 (map2 (hF.at 1 rfl) (hF.at 0 rfl))) (wName_at kk hk ii hii _ (hT.below st.bel)) rfl rfl rfl rfl fun w4 a st hF=>?_
 refine E.opv hF (r_move (hF.at 12 rfl)) rfl rfl rfl rfl fun a hF=>?_
 refine E.opv hF (r_move (hF.at 4 rfl)) rfl rfl rfl rfl fun a hF=>?_
 refine S.callx st hF (rgc k9 (map2 (hF.at 1 rfl) (hF.at 0 rfl))) (wName_at kk hk jj hjj _ (hT.below st.bel)) rfl rfl rfl rfl fun w5 a st hF=>?_
 refine E.opv hF (r_assign (hF.at 3 rfl)) rfl rfl rfl rfl fun a hF=>?_
 refine E.opv hF (r_assign (hF.at 1 rfl)) rfl rfl rfl rfl fun a hF=>?_
 refine E.nil ?_
 refine wp_seq ?_
 refine E.seq ?_
 refine E.opv hF (r_move (hF.at 17 rfl)) rfl rfl rfl rfl fun a hF=>?_
 refine E.opv hF (r_move (hF.at 2 rfl)) rfl rfl rfl rfl fun a hF=>?_
 refine S.callx st hF (rgc k11 (map2 (hF.at 1 rfl) (hF.at 0 rfl))) (wFind_at kk hk ii hii _ (hT.below st.bel)) rfl rfl rfl rfl fun w6 a st hF=>?_
 refine E.opv hF (r_move (hF.at 0 rfl)) rfl rfl rfl rfl fun a hF=>?_
 refine E.opv hF (r_extract (v:= .int .i64 ((ii:Nat):Int)) (hF.at 0 rfl) rfl) rfl rfl rfl rfl fun a hF=>?_
 refine E.opv hF (r_extract (v:= .bool true) (hF.at 1 rfl) rfl) rfl rfl rfl rfl fun a hF=>?_
 refine E.opv hF (r_assign (hF.at 1 rfl)) rfl rfl rfl rfl fun a hF=>?_
 refine E.opv hF (r_assign (hF.at 1 rfl)) rfl rfl rfl rfl fun a hF=>?_
 refine E.nil ?_
 refine wp_seq ?_
 refine E.seq ?_
 refine E.opv hF (r_move (hF.at 9 rfl)) rfl rfl rfl rfl fun a hF=>?_
 refine E.opv hF (r_bin (hF.at 0 rfl) ev_c eg_str (sb_ne (xs:=(atL (nmL kk) ii)) (ys:=[]) (by rw[sw_f (nmL_ne hk hii) (nm_xs hk _ (atL_mem hii)).2.2 (okb_nil _)] <;> rfl))) rfl rfl rfl rfl fun a hF=>?_
 refine E.opv hF (r_move (hF.at 0 rfl)) rfl rfl rfl rfl fun a hF=>?_
 refine E.opvg hF (r_move (hF.at 12 rfl)) (wanted_by rfl rfl (hF.at 0 rfl) rfl) rfl rfl rfl fun a hF=>?_
 refine E.opvg hF (r_move (hF.at 12 rfl)) (wanted_by rfl rfl (hF.at 1 rfl) rfl) rfl rfl rfl fun a hF=>?_
 by_cases hc7:ii=jj
 ·refine E.opvg hF (r_bin (hF.at 1 rfl) (hF.at 0 rfl) eg_str (sb_eq (xs:=(atL (nmL kk) ii)) (ys:=(atL (nmL kk) jj)) (sw_t (by rw[hc7])))) (wanted_by rfl rfl (hF.at 2 rfl) rfl) rfl rfl rfl fun a hF=>?_
  refine E.opvg hF (r_move (hF.at 23 rfl)) (wanted_by rfl rfl (hF.at 3 rfl) rfl) rfl rfl rfl fun a hF=>?_
  refine E.opvg hF (r_move (hF.at 23 rfl)) (wanted_by rfl rfl (hF.at 4 rfl) rfl) rfl rfl rfl fun a hF=>?_
  refine E.opvg hF (r_bin (hF.at 1 rfl) (hF.at 0 rfl) eg_scalar (bi_int (ic_eql (c:=true) (dec_tt (by omega))) (by simp))) (wanted_by rfl rfl (hF.at 5 rfl) rfl) rfl rfl rfl fun a hF=>?_
  refine E.opvg hF (r_bin (hF.at 3 rfl) (hF.at 0 rfl) eg_bool (bb_eql (d:=true) rfl)) (wanted_by rfl rfl (hF.at 6 rfl) rfl) rfl rfl rfl fun a hF=>?_
  refine E.opv hF (r_pick_t (hF.at 7 rfl) (hF.at 0 rfl)) rfl rfl rfl rfl fun a hF=>?_
  refine E.opv hF (r_move (hF.at 0 rfl)) rfl rfl rfl rfl fun a hF=>?_
  refine E.opvg hF (r_move (hF.at 12 rfl)) (wanted_by rfl rfl (hF.at 0 rfl) rfl) rfl rfl rfl fun a hF=>?_
  refine E.opv hF (r_pick_t (hF.at 1 rfl) (hF.at 0 rfl)) rfl rfl rfl rfl fun a hF=>?_
  refine E.opv hF (r_move (hF.at 0 rfl)) rfl rfl rfl rfl fun a hF=>?_
  refine E.opvg hF (r_move (hF.at 16 rfl)) (wanted_by rfl rfl (hF.at 0 rfl) rfl) rfl rfl rfl fun a hF=>?_
  refine E.opvg hF (r_move (hF.at 33 rfl)) (wanted_by rfl rfl (hF.at 1 rfl) rfl) rfl rfl rfl fun a hF=>?_
  refine E.opvg hF (r_bin (hF.at 1 rfl) (hF.at 0 rfl) eg_scalar (bi_int (ic_eql (c:=true) (dec_tt (rfl))) (by simp))) (wanted_by rfl rfl (hF.at 2 rfl) rfl) rfl rfl rfl fun a hF=>?_
  refine E.opv hF (r_pick_t (hF.at 3 rfl) (hF.at 0 rfl)) rfl rfl rfl rfl fun a hF=>?_
  refine E.opset (L':=[(6,.bool true),(60,.bool true),(59,.bool true),(58,.int .i64 ((ii:Nat):Int)),(57,.int .i64 ((ii:Nat):Int)),(56,.bool true),(55,.bool true),(54,.bool true),(53,.bool true),(52,.bool true),(51,.bool true),(50,.bool true),(49,.int .i64 ((jj:Nat):Int)),(48,.int .i64 ((ii:Nat):Int)),(47,.bool true),(46,.string (bstr (atL (nmL kk) jj))),(45,.string (bstr (atL (nmL kk) ii))),(44,.bool true),(43,.bool true),(42,.string (bstr (atL (nmL kk) ii))),(11,.bool true),(10,.int .i64 ((ii:Nat):Int)),(41,.bool true),(40,.int .i64 ((ii:Nat):Int)),(36,.tuple #[.int .i64 ((ii:Nat):Int),.bool true]),(39,.tuple #[.int .i64 ((ii:Nat):Int),.bool true]),(38,.string (bstr (atL (nmL kk) ii))),(37,.int .i64 ((kk:Nat):Int)),(9,.string (bstr (atL (nmL kk) jj))),(8,.string (bstr (atL (nmL kk) ii))),(35,.string (bstr (atL (nmL kk) jj))),(34,.int .i64 ((jj:Nat):Int)),(33,.int .i64 ((kk:Nat):Int)),(32,.string (bstr (atL (nmL kk) ii))),(31,.int .i64 ((ii:Nat):Int)),(30,.int .i64 ((kk:Nat):Int)),(2,.int .i64 ((jj:Nat):Int)),(1,.int .i64 ((ii:Nat):Int)),(29,.int .i64 ((a2%256)%((((nmL kk).length :Nat)):Int))),(21,.bool false),(20,.int .i64 ((((nmL kk).length :Nat)):Int)),(7,.int .i64 ((((nmL kk).length :Nat)):Int)),(19,.int .i64 ((((nmL kk).length :Nat)):Int)),(18,.slice adgr (nmL kk).length cpgr),(17,.int .i64 ((kk:Nat):Int)),(0,.int .i64 ((kk:Nat):Int)),(16,.int .i64 ((a0%256)%8)),(15,.int .i64 (a0%256)),(14,.int .i64 a0),(13,.bool false),(12,.bool true)]) hF (r_assign (hF.at 0 rfl)) rfl rfl rfl rfl fun a hF=>?_
  refine E.nil ?_
  refine wp_ret ?_
  have bel:=st.bel
  refine bodyPost_ret (res_tmp Tryd.results5 (hF.at 0 rfl)) hF.dfr ?_
  exact⟨rfl,bel⟩
 ·refine E.opvg hF (r_bin (hF.at 1 rfl) (hF.at 0 rfl) eg_str (sb_eq (xs:=(atL (nmL kk) ii)) (ys:=(atL (nmL kk) jj)) (sw_f (fun e=>hc7 (nmA_inj hk hii hjj e)) (nm_xs hk _ (atL_mem hii)).2.2 (nm_xs hk _ (atL_mem hjj)).2.2))) (wanted_by rfl rfl (hF.at 2 rfl) rfl) rfl rfl rfl fun a hF=>?_
  refine E.opvg hF (r_move (hF.at 23 rfl)) (wanted_by rfl rfl (hF.at 3 rfl) rfl) rfl rfl rfl fun a hF=>?_
  refine E.opvg hF (r_move (hF.at 23 rfl)) (wanted_by rfl rfl (hF.at 4 rfl) rfl) rfl rfl rfl fun a hF=>?_
  refine E.opvg hF (r_bin (hF.at 1 rfl) (hF.at 0 rfl) eg_scalar (bi_int (ic_eql (c:=false) (dec_ff (by omega))) (by simp))) (wanted_by rfl rfl (hF.at 5 rfl) rfl) rfl rfl rfl fun a hF=>?_
  refine E.opvg hF (r_bin (hF.at 3 rfl) (hF.at 0 rfl) eg_bool (bb_eql (d:=true) rfl)) (wanted_by rfl rfl (hF.at 6 rfl) rfl) rfl rfl rfl fun a hF=>?_
  refine E.opv hF (r_pick_t (hF.at 7 rfl) (hF.at 0 rfl)) rfl rfl rfl rfl fun a hF=>?_
  refine E.opv hF (r_move (hF.at 0 rfl)) rfl rfl rfl rfl fun a hF=>?_
  refine E.opvg hF (r_move (hF.at 12 rfl)) (wanted_by rfl rfl (hF.at 0 rfl) rfl) rfl rfl rfl fun a hF=>?_
  refine E.opv hF (r_pick_t (hF.at 1 rfl) (hF.at 0 rfl)) rfl rfl rfl rfl fun a hF=>?_
  refine E.opv hF (r_move (hF.at 0 rfl)) rfl rfl rfl rfl fun a hF=>?_
  refine E.opvg hF (r_move (hF.at 16 rfl)) (wanted_by rfl rfl (hF.at 0 rfl) rfl) rfl rfl rfl fun a hF=>?_
  refine E.opvg hF (r_move (hF.at 33 rfl)) (wanted_by rfl rfl (hF.at 1 rfl) rfl) rfl rfl rfl fun a hF=>?_
  refine E.opvg hF (r_bin (hF.at 1 rfl) (hF.at 0 rfl) eg_scalar (bi_int (ic_eql (c:=true) (dec_tt (rfl))) (by simp))) (wanted_by rfl rfl (hF.at 2 rfl) rfl) rfl rfl rfl fun a hF=>?_
  refine E.opv hF (r_pick_t (hF.at 3 rfl) (hF.at 0 rfl)) rfl rfl rfl rfl fun a hF=>?_
  refine E.opset (L':=[(6,.bool true),(60,.bool true),(59,.bool true),(58,.int .i64 ((ii:Nat):Int)),(57,.int .i64 ((ii:Nat):Int)),(56,.bool true),(55,.bool true),(54,.bool true),(53,.bool true),(52,.bool true),(51,.bool true),(50,.bool false),(49,.int .i64 ((jj:Nat):Int)),(48,.int .i64 ((ii:Nat):Int)),(47,.bool false),(46,.string (bstr (atL (nmL kk) jj))),(45,.string (bstr (atL (nmL kk) ii))),(44,.bool true),(43,.bool true),(42,.string (bstr (atL (nmL kk) ii))),(11,.bool true),(10,.int .i64 ((ii:Nat):Int)),(41,.bool true),(40,.int .i64 ((ii:Nat):Int)),(36,.tuple #[.int .i64 ((ii:Nat):Int),.bool true]),(39,.tuple #[.int .i64 ((ii:Nat):Int),.bool true]),(38,.string (bstr (atL (nmL kk) ii))),(37,.int .i64 ((kk:Nat):Int)),(9,.string (bstr (atL (nmL kk) jj))),(8,.string (bstr (atL (nmL kk) ii))),(35,.string (bstr (atL (nmL kk) jj))),(34,.int .i64 ((jj:Nat):Int)),(33,.int .i64 ((kk:Nat):Int)),(32,.string (bstr (atL (nmL kk) ii))),(31,.int .i64 ((ii:Nat):Int)),(30,.int .i64 ((kk:Nat):Int)),(2,.int .i64 ((jj:Nat):Int)),(1,.int .i64 ((ii:Nat):Int)),(29,.int .i64 ((a2%256)%((((nmL kk).length :Nat)):Int))),(21,.bool false),(20,.int .i64 ((((nmL kk).length :Nat)):Int)),(7,.int .i64 ((((nmL kk).length :Nat)):Int)),(19,.int .i64 ((((nmL kk).length :Nat)):Int)),(18,.slice adgr (nmL kk).length cpgr),(17,.int .i64 ((kk:Nat):Int)),(0,.int .i64 ((kk:Nat):Int)),(16,.int .i64 ((a0%256)%8)),(15,.int .i64 (a0%256)),(14,.int .i64 a0),(13,.bool false),(12,.bool true)]) hF (r_assign (hF.at 0 rfl)) rfl rfl rfl rfl fun a hF=>?_
  refine E.nil ?_
  refine wp_ret ?_
  have bel:=st.bel
  refine bodyPost_ret (res_tmp Tryd.results5 (hF.at 0 rfl)) hF.dfr ?_
  exact⟨rfl,bel⟩
end Go.Proofs.YtdkmjclbhfnegaaDoor
