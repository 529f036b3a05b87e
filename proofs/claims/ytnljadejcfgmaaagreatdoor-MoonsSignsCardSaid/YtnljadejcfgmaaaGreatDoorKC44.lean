import Derived.Test.YtnljadejcfgmaaaGreatDoorKC41
namespace Go.Proofs.YtnljadejcfgmaaaGreatDoor
open Go.RowKit
set_option maxRecDepth 100000
set_option linter.unusedVariables false
set_option maxHeartbeats 8000000
theorem moAt_at {v1:Value} {qt:Rat} {k:Nat} {fd:Int} (w:World) (hT:TabD w) (h1:Rq w v1 qt) (hl:RLim qt k) (hk:k≤100) (hf0: -90000000≤Rat.floor qt) (hf1:Rat.floor qt≤90000000) (e:lastV qt=fd):Calls Tryz.prog 34 #[v1] w (ValPost w (.agg #[.int .i64 fd,.int .i64 (nextD fd),.int .i64 (smV fd%12),.int .i64 (smV (nextD fd)%12)])):=by
 subst e
 exact moAt_any v1 qt k w hT h1 hl hk hf0 hf1
theorem moonsSigns_walk (da:Int) (w:World) (hT:TabD w):
 Calls Tryz.prog 11 #[.int .i64 da] w (ValPost w (.bool true)):=by
 have hin0:=inD_bd da
 have hln:=lastI_bd (inD da)
 obtain⟨fd,hfd⟩:∃z:Int,lastV (((inD da:Int)):Rat)=z:=⟨_,rfl⟩
 rw[hfd] at hln
 have hns:=nextD_spec hln.2.2
 have hsm:=sm_next hln.2.2
 have hs1:kaV (hhi wax (((fd:Int)):Rat) (((fd+1:Int)):Rat) 10)=smV fd:=rfl
 have hs2:kaV (hhi wax ((((nextD fd):Int)):Rat) ((((nextD fd)+1:Int)):Rat) 10)=smV (nextD fd):=rfl
 have hsa:=sm_after fd
 have hsb:=sm_ahead (nextD fd)
 have st:=St.start w
 refine E.enter (nt:=98) (L:=[(0,.int .i64 da)]) Tryz.func11 rfl rfl rfl (args_cons (i:=0) rfl args_nil) ?_
 intro a hF
 refine wp_seq ?_
 refine E.seq ?_
 refine E.opv hF (r_assign ev_c) rfl rfl rfl rfl fun a hF=>?_
 refine E.nil ?_
 refine wp_seq ?_
 refine wp_seq ?_
 refine E.seq ?_
 refine S.callx st hF (rgc k33 map0) (awake19_any _) rfl rfl rfl rfl fun w1 a st hF=>?_
 refine E.opv hF (r_un (hF.at 0 rfl) (bn_not _ false rfl)) rfl rfl rfl rfl fun a hF=>?_
 refine E.nil ?_
 refine wp_cond_false (hF.at 0 rfl) ?_
 refine wp_skip ?_
 refine E.norm ?_
 refine wp_seq ?_
 refine E.seq ?_
 refine E.opv hF (r_move (hF.at 3 rfl)) rfl rfl rfl rfl fun a hF=>?_
 refine S.callx st hF (rgc k14 (map1 (hF.at 0 rfl))) (inD_any da _) rfl rfl rfl rfl fun w2 a st hF=>?_
 have hin:=inD_bd da
 refine S.ck st hF (rgc k40 (map1 (hF.at 0 rfl))) (rq_ret (rWhole_any (inD da) _ (by omega) (by omega)) (rlim_int (limz_64 (by omega) (by omega)) (by omega))) Rl.cl rfl fun vv4 w3 a st hF=>?_
 obtain⟨b6,ad6,n6,c6,ae6,m6,d6,rfl⟩:=Rq.form (st.f 0 rfl).1
 refine S.callx st hF (rgc k34 (map1 (hF.at 0 rfl))) (moAt_at _ (hT.below st.bel) (st.f 0 rfl).1 (st.f 0 rfl).2 (by omega) (by rw[Rat.floor_intCast];omega) (by rw[Rat.floor_intCast];omega) hfd) rfl rfl rfl rfl fun w7 a st hF=>?_
 refine S.new st hF 0 rfl ty_MMO rfl rfl rfl rfl rfl fun g3 w8 a st hF=>?_
 refine E.nil ?_
 refine wp_seq ?_
 refine E.seq ?_
 refine E.opv hF (r_field (hF.at 0 rfl) (fa_MMO_0 (p:=0) rfl)) rfl rfl rfl rfl fun a hF=>?_
 refine E.opv hF (r_load (hF.at 0 rfl) (ldb_i64 (v:= .int .i64 fd) (st.bk 0 rfl) rfl)) rfl rfl rfl rfl fun a hF=>?_
 refine S.call2 st hF (rgc k46 (map1 (hF.at 0 rfl))) (skNew_any fd _ (hT.below st.bel) (by omega) (by omega)) (fun _ _ h=>h) Rq.cl Rq.cl rfl rfl rfl rfl fun vv10 vv11 w9 a st hF=>?_
 obtain⟨b14,ad14,n14,c14,ae14,m14,d14,rfl⟩:=Rq.form (st.f 0 rfl)
 obtain⟨b15,ad15,n15,c15,ae15,m15,d15,rfl⟩:=Rq.form (st.f 1 rfl)
 refine E.opv hF (r_move (hF.at 0 rfl)) rfl rfl rfl rfl fun a hF=>?_
 refine E.opv hF (r_extract (v:= .agg #[.bool b14,.slice ad14 n14 c14,.slice ae14 m14 d14]) (hF.at 0 rfl) rfl) rfl rfl rfl rfl fun a hF=>?_
 refine E.opv hF (r_extract (v:= .agg #[.bool b15,.slice ad15 n15 c15,.slice ae15 m15 d15]) (hF.at 1 rfl) rfl) rfl rfl rfl rfl fun a hF=>?_
 refine S.alloc st hF ty_Rat rfl rfl fun g4 w16 a st hF=>?_
 refine S.alloc st hF ty_Rat rfl rfl fun g5 w17 a st hF=>?_
 refine S.sto st hF 1 rfl (hF.at 1 rfl) (hF.at 3 rfl) ty_Rat rfl rfl rfl rfl fun w18 a st hF=>?_
 refine S.sto st hF 0 rfl (hF.at 0 rfl) (hF.at 2 rfl) ty_Rat rfl rfl rfl rfl fun w19 a st hF=>?_
 refine E.nil ?_
 refine wp_seq ?_
 refine E.seq ?_
 refine E.opv hF (r_field (hF.at 8 rfl) (fa_MMO_1 (p:=1) rfl)) rfl rfl rfl rfl fun a hF=>?_
 refine E.opv hF (r_load (hF.at 0 rfl) (ldb_i64 (v:= .int .i64 (nextD fd)) (st.bk 2 rfl) rfl)) rfl rfl rfl rfl fun a hF=>?_
 refine S.call2 st hF (rgc k46 (map1 (hF.at 0 rfl))) (skNew_any (nextD fd) _ (hT.below st.bel) (by omega) (by omega)) (fun _ _ h=>h) Rq.cl Rq.cl rfl rfl rfl rfl fun vv21 vv22 w20 a st hF=>?_
 obtain⟨b25,ad25,n25,c25,ae25,m25,d25,rfl⟩:=Rq.form (st.f 0 rfl)
 obtain⟨b26,ad26,n26,c26,ae26,m26,d26,rfl⟩:=Rq.form (st.f 1 rfl)
 refine E.opv hF (r_move (hF.at 0 rfl)) rfl rfl rfl rfl fun a hF=>?_
 refine E.opv hF (r_extract (v:= .agg #[.bool b25,.slice ad25 n25 c25,.slice ae25 m25 d25]) (hF.at 0 rfl) rfl) rfl rfl rfl rfl fun a hF=>?_
 refine E.opv hF (r_extract (v:= .agg #[.bool b26,.slice ad26 n26 c26,.slice ae26 m26 d26]) (hF.at 1 rfl) rfl) rfl rfl rfl rfl fun a hF=>?_
 refine S.alloc st hF ty_Rat rfl rfl fun g6 w27 a st hF=>?_
 refine S.alloc st hF ty_Rat rfl rfl fun g7 w28 a st hF=>?_
 refine S.sto st hF 1 rfl (hF.at 1 rfl) (hF.at 3 rfl) ty_Rat rfl rfl rfl rfl fun w29 a st hF=>?_
 refine S.sto st hF 0 rfl (hF.at 0 rfl) (hF.at 2 rfl) ty_Rat rfl rfl rfl rfl fun w30 a st hF=>?_
 refine E.nil ?_
 refine wp_seq ?_
 refine E.seq ?_
 refine E.opv hF (r_assign ev_c) rfl rfl rfl rfl fun a hF=>?_
 refine E.nil ?_
 refine wp_seq ?_
 refine wp_seq ?_
 refine E.seq ?_
 refine E.opv hF (r_field (hF.at 17 rfl) (fa_MMO_0 (p:=0) rfl)) rfl rfl rfl rfl fun a hF=>?_
 refine E.opv hF (r_load (hF.at 0 rfl) (ldb_i64 (v:= .int .i64 fd) (st.bk 4 rfl) rfl)) rfl rfl rfl rfl fun a hF=>?_
 refine E.opv hF (r_bin (hF.at 0 rfl) ev_c eg_scalar (ia_add (by omega) (by omega))) rfl rfl rfl rfl fun a hF=>?_
 refine E.opv hF (r_assign (hF.at 0 rfl)) rfl rfl rfl rfl fun a hF=>?_
 refine E.nil ?_
 refine wp_block ?_
 refine E.loop (fun mq a wv=>∃(e:Int) (z:Int),fd+1≤z∧z≤nextD fd∧0≤e∧e≤z-fd∧e=kaV (((z:Int)):Rat)-kaV (((fd+1:Int)):Rat)∧Fr 98 a [(9,.int .i64 z),(8,.int .i64 e),(7,.pointer (some ⟨g7,0,none⟩)),(5,.pointer (some ⟨g5,0,none⟩)),(3,.pointer (some ⟨g3,0,none⟩)),(2,.bool false)]∧St w wv [(g7,[.bool b26,.slice ad26 n26 c26,.slice ae26 m26 d26]),(g5,[.bool b15,.slice ad15 n15 c15,.slice ae15 m15 d15]),(g3,[.int .i64 fd,.int .i64 (nextD fd),.int .i64 (smV fd%12),.int .i64 (smV (nextD fd)%12)])] [fun w=>Rq w (.agg #[.bool b15,.slice ad15 n15 c15,.slice ae15 m15 d15]) (hhi wax ((fd:Int):Rat) ((fd+1:Int):Rat) 10),fun w=>Rq w (.agg #[.bool b26,.slice ad26 n26 c26,.slice ae26 m26 d26]) (hhi wax ((nextD fd:Int):Rat) ((nextD fd+1:Int):Rat) 10)]∧mq=(nextD fd-z:Int).toNat) ((nextD fd-(fd+1):Int).toNat) ?_ ?_
 ·exact⟨(0:Int),(fd+1:Int),(by omega),(by omega),(by omega),(by omega),(by omega),Fr.pick (L':=[(9,.int .i64 (fd+1)),(8,.int .i64 0),(7,.pointer (some ⟨g7,0,none⟩)),(5,.pointer (some ⟨g5,0,none⟩)),(3,.pointer (some ⟨g3,0,none⟩)),(2,.bool false)]) hF [0,4,5,13,21,28] rfl,st.pick [0,2,4] [3,1] rfl rfl (by decide),rfl⟩
 ·rintro mq a w31 ⟨e,z,hz0,hz1,he0,he1,he,hF,st,hm⟩
  refine wp_seq ?_
  refine wp_seq ?_
  refine E.seq ?_
  refine E.opv hF (r_move (hF.at 0 rfl)) rfl rfl rfl rfl fun a hF=>?_
  refine E.opv hF (r_field (hF.at 5 rfl) (fa_MMO_1 (p:=1) rfl)) rfl rfl rfl rfl fun a hF=>?_
  refine E.opv hF (r_load (hF.at 0 rfl) (ldb_i64 (v:= .int .i64 (nextD fd)) (st.bk 2 rfl) rfl)) rfl rfl rfl rfl fun a hF=>?_
  by_cases hc32:z<nextD fd
  ·refine E.opv hF (r_bin (hF.at 2 rfl) (hF.at 0 rfl) eg_scalar (bi_int (ic_lss (c:=true) (dec_tt hc32)) (by simp))) rfl rfl rfl rfl fun a hF=>?_
   refine E.nil ?_
   refine wp_cond_true (hF.at 0 rfl) ?_
   refine wp_skip ?_
   refine E.norm ?_
   refine wp_seq ?_
   refine wp_block ?_
   refine wp_seq ?_
   refine E.seq ?_
   refine E.opv hF (r_move (hF.at 4 rfl)) rfl rfl rfl rfl fun a hF=>?_
   refine S.callx st hF (rgc k47 (map1 (hF.at 0 rfl))) (skEnters_any z _ (hT.below st.bel) (by omega) (by omega)) rfl rfl rfl rfl fun w33 a st hF=>?_
   refine E.nil ?_
   by_cases hc34:notI 0 (kI 0 ((z:Int):Rat)) ((z+1:Int):Rat)=true
   ·refine wp_cond_true (Eq.trans (hF.at 0 rfl) (congrArg Value.bool hc34)) ?_
    refine E.seq ?_
    refine E.opv hF (r_move (hF.at 7 rfl)) rfl rfl rfl rfl fun a hF=>?_
    refine E.opv hF (r_bin (hF.at 0 rfl) ev_c eg_scalar (ia_add (by omega) (by omega))) rfl rfl rfl rfl fun a hF=>?_
    refine E.opset (L':=[(8,.int .i64 (e+1)),(43,.int .i64 (e+1)),(42,.int .i64 e),(41,.bool (notI 0 (kI 0 ((z:Int):Rat)) ((z+1:Int):Rat))),(40,.int .i64 z),(37,.bool true),(36,.int .i64 (nextD fd)),(35,.pointer (some ⟨g3,1,none⟩)),(34,.int .i64 z),(9,.int .i64 z),(7,.pointer (some ⟨g7,0,none⟩)),(5,.pointer (some ⟨g5,0,none⟩)),(3,.pointer (some ⟨g3,0,none⟩)),(2,.bool false)]) hF (r_assign (hF.at 0 rfl)) rfl rfl rfl rfl fun a hF=>?_
    refine E.nil0 ?_
    refine E.blk ?_
    refine E.norm ?_
    refine E.seq ?_
    refine E.opv hF (r_move (hF.at 9 rfl)) rfl rfl rfl rfl fun a hF=>?_
    refine E.opv hF (r_bin (hF.at 0 rfl) ev_c eg_scalar (ia_add (by omega) (by omega))) rfl rfl rfl rfl fun a hF=>?_
    refine E.opset (L':=[(9,.int .i64 (z+1)),(39,.int .i64 (z+1)),(38,.int .i64 z),(8,.int .i64 (e+1)),(43,.int .i64 (e+1)),(42,.int .i64 e),(41,.bool (notI 0 (kI 0 ((z:Int):Rat)) ((z+1:Int):Rat))),(40,.int .i64 z),(37,.bool true),(36,.int .i64 (nextD fd)),(35,.pointer (some ⟨g3,1,none⟩)),(34,.int .i64 z),(7,.pointer (some ⟨g7,0,none⟩)),(5,.pointer (some ⟨g5,0,none⟩)),(3,.pointer (some ⟨g3,0,none⟩)),(2,.bool false)]) hF (r_assign (hF.at 0 rfl)) rfl rfl rfl rfl fun a hF=>?_
    refine E.nil0 ?_
    refine E.norm ?_
    have hkn:=ka_next z
    have hkq:=of_decide_eq_true ((ent_ka z).symm.trans hc34)
    exact⟨(nextD fd-(z+1):Int).toNat,by omega,⟨(e+1:Int),(z+1:Int),(by omega),(by omega),(by omega),(by omega),(by omega),Fr.pick (L':=[(9,.int .i64 (z+1)),(8,.int .i64 (e+1)),(7,.pointer (some ⟨g7,0,none⟩)),(5,.pointer (some ⟨g5,0,none⟩)),(3,.pointer (some ⟨g3,0,none⟩)),(2,.bool false)]) hF [0,3,12,13,14,15] rfl,st.pick [0,1,2] [0,1] rfl rfl (by decide),rfl⟩⟩
   ·refine wp_cond_false (Eq.trans (hF.at 0 rfl) (congrArg Value.bool (eq_false_of_ne_true hc34))) ?_
    refine wp_skip ?_
    refine E.blk ?_
    refine E.norm ?_
    refine E.seq ?_
    refine E.opv hF (r_move (hF.at 6 rfl)) rfl rfl rfl rfl fun a hF=>?_
    refine E.opv hF (r_bin (hF.at 0 rfl) ev_c eg_scalar (ia_add (by omega) (by omega))) rfl rfl rfl rfl fun a hF=>?_
    refine E.opset (L':=[(9,.int .i64 (z+1)),(39,.int .i64 (z+1)),(38,.int .i64 z),(41,.bool (notI 0 (kI 0 ((z:Int):Rat)) ((z+1:Int):Rat))),(40,.int .i64 z),(37,.bool true),(36,.int .i64 (nextD fd)),(35,.pointer (some ⟨g3,1,none⟩)),(34,.int .i64 z),(8,.int .i64 e),(7,.pointer (some ⟨g7,0,none⟩)),(5,.pointer (some ⟨g5,0,none⟩)),(3,.pointer (some ⟨g3,0,none⟩)),(2,.bool false)]) hF (r_assign (hF.at 0 rfl)) rfl rfl rfl rfl fun a hF=>?_
    refine E.nil0 ?_
    refine E.norm ?_
    have hkn:=ka_next z
    have hkq:=of_decide_eq_false ((ent_ka z).symm.trans (eq_false_of_ne_true hc34))
    exact⟨(nextD fd-(z+1):Int).toNat,by omega,⟨(e:Int),(z+1:Int),(by omega),(by omega),(by omega),(by omega),(by omega),Fr.pick (L':=[(9,.int .i64 (z+1)),(8,.int .i64 e),(7,.pointer (some ⟨g7,0,none⟩)),(5,.pointer (some ⟨g5,0,none⟩)),(3,.pointer (some ⟨g3,0,none⟩)),(2,.bool false)]) hF [0,9,10,11,12,13] rfl,st.pick [0,1,2] [0,1] rfl rfl (by decide),rfl⟩⟩
  ·refine E.opv hF (r_bin (hF.at 2 rfl) (hF.at 0 rfl) eg_scalar (bi_int (ic_lss (c:=false) (dec_ff hc32)) (by simp))) rfl rfl rfl rfl fun a hF=>?_
   refine E.nil ?_
   refine wp_cond_false (hF.at 0 rfl) ?_
   refine wp_exit ?_
   refine E.past ?_
   refine E.past ?_
   refine E.out (id:=0) ?_
   refine E.norm ?_
   refine wp_seq ?_
   refine E.rg 11 mixed hF [44,45,46,47,48,49,50,51,52,10,11] [_,.ex (.int .i64 fd),.ex (.int .i64 (fd+1)),_,_,_,.ex (.int .i64 (nextD fd)),_,_,.ex (.int .i64 (kaV (((fd+1:Int):Rat))%12)),.ex (.int .i64 (kaV (((nextD fd:Int):Rat))%12))] (by decide+kernel) rfl rfl rfl ⟨rd rfl rfl fun a' w' hF' hb=>(r_field (hF'.at 8 rfl) (fa_MMO_0 (p:=0) rfl)),(by intro a' w' hF' hb hd;have e44:=sHe hd 0 44 rfl rfl rfl rfl;exact dv0 (r_load e44 (ldb_i64 (v:= .int .i64 fd) ((st.bk 2 rfl).below hb) rfl)) rfl rfl rfl),(by intro a' w' hF' hb hd;have e45:=sHe hd 0 45 rfl rfl rfl rfl;exact dv0 (r_bin e45 ev_c eg_scalar (ia_add (by omega) (by omega))) rfl rfl rfl),ck st k40 rfl fun _ s=>rq_ret (rWhole_any (fd+1) _ (by omega) (by omega)) (rlim_int (limz_64 (by omega) (by omega)) (by omega)),ck st k31 rfl fun _ s _ x47=>ex_ret (moSign12_any _ (((fd+1:Int):Rat)) 2 _ (hT.below s.bel) x47.1 x47.2 (by omega)),rd rfl rfl fun a' w' hF' hb=>(r_field (hF'.at 8 rfl) (fa_MMO_1 (p:=1) rfl)),(by intro a' w' hF' hb hd;have e49:=sHe hd 0 49 rfl rfl rfl rfl;exact dv0 (r_load e49 (ldb_i64 (v:= .int .i64 (nextD fd)) ((st.bk 2 rfl).below hb) rfl)) rfl rfl rfl),ck st k40 rfl fun _ s=>rq_ret (rWhole_any (nextD fd) _ (by omega) (by omega)) (rlim_int (limz_64 (by omega) (by omega)) (by omega)),ck st k31 rfl fun _ s _ x51=>ex_ret (moSign12_any _ (((nextD fd:Int):Rat)) 2 _ (hT.below s.bel) x51.1 x51.2 (by omega)),(by intro a' w' hF' hb hd;have e48:=sHe hd 0 48 rfl rfl rfl rfl;exact dv0 (r_assign e48) rfl rfl rfl),(by intro a' w' hF' hb hd;have e52:=sHe hd 0 52 rfl rfl rfl rfl;exact dv0 (r_assign e52) rfl rfl rfl),trivial⟩ ?_
   intro a w35 hF bb hall
   replace st:=st.to bb
   replace hF:=rE hall hF 9 rfl rfl
   replace hF:=rE hall hF 10 rfl rfl
   clear hall bb
   have hzn:z=nextD fd:=by omega
   rw[hzn] at he
   refine E.nil ?_
   refine wp_seq ?_
   refine E.seq ?_
   refine E.opv hF (r_assign ev_c) rfl rfl rfl rfl fun a hF=>?_
   refine E.nil ?_
   refine wp_seq ?_
   refine wp_seq ?_
   refine E.seq ?_
   refine E.opv hF (r_move (hF.at 2 rfl)) rfl rfl rfl rfl fun a hF=>?_
   refine E.opv hF (r_load (hF.at 11 rfl) (ld_all ty_Rat (st.bk 1 rfl) rfl)) rfl rfl rfl rfl fun a hF=>?_
   refine S.callx st hF (rgc k31 (map1 (hF.at 0 rfl))) (moSign12_any _ _ 14 _ (hT.below st.bel) (st.f 0 rfl) (hhi_lim (p:=wax) (i:=2) (j:=2) (lim64 (n:=fd) (by omega) (by omega)) (dnext_lim (n:=fd) (by omega) (by omega)) (by decide)) (by omega)) rfl rfl rfl rfl fun w36 a st hF=>?_
   by_cases hc37:kaV (((fd+1:Int):Rat))%12≠kaV (hhi wax ((fd:Int):Rat) ((fd+1:Int):Rat) 10)%12
   ·refine E.opv hF (r_bin (hF.at 2 rfl) (hF.at 0 rfl) eg_scalar (bi_int (ic_neq (c:=true) (dec_tt hc37)) (by simp))) rfl rfl rfl rfl fun a hF=>?_
    refine E.nil ?_
    refine wp_cond_true (hF.at 0 rfl) ?_
    refine E.seq ?_
    refine E.opv hF (r_move (hF.at 4 rfl)) rfl rfl rfl rfl fun a hF=>?_
    refine E.opv hF (r_bin (hF.at 0 rfl) ev_c eg_scalar (ia_add (by omega) (by omega))) rfl rfl rfl rfl fun a hF=>?_
    refine E.opset (L':=[(12,.int .i64 (0+1)),(58,.int .i64 (0+1)),(57,.int .i64 0),(56,.bool true),(55,.int .i64 (kaV (hhi wax ((fd:Int):Rat) ((fd+1:Int):Rat) 10)%12)),(54,.agg #[.bool b15,.slice ad15 n15 c15,.slice ae15 m15 d15]),(53,.int .i64 (kaV (((fd+1:Int):Rat))%12)),(11,.int .i64 (kaV (((nextD fd:Int):Rat))%12)),(10,.int .i64 (kaV (((fd+1:Int):Rat))%12)),(37,.bool false),(36,.int .i64 (nextD fd)),(35,.pointer (some ⟨g3,1,none⟩)),(34,.int .i64 z),(9,.int .i64 z),(8,.int .i64 e),(7,.pointer (some ⟨g7,0,none⟩)),(5,.pointer (some ⟨g5,0,none⟩)),(3,.pointer (some ⟨g3,0,none⟩)),(2,.bool false)]) hF (r_assign (hF.at 0 rfl)) rfl rfl rfl rfl fun a hF=>?_
    refine E.nil ?_
    refine wp_seq ?_
    refine wp_seq ?_
    refine E.seq ?_
    refine E.opv hF (r_move (hF.at 7 rfl)) rfl rfl rfl rfl fun a hF=>?_
    refine E.opv hF (r_load (hF.at 16 rfl) (ld_all ty_Rat (st.bk 0 rfl) rfl)) rfl rfl rfl rfl fun a hF=>?_
    refine S.callx st hF (rgc k31 (map1 (hF.at 0 rfl))) (moSign12_any _ _ 14 _ (hT.below st.bel) (st.f 1 rfl) (hhi_lim (p:=wax) (i:=2) (j:=2) (lim64 (n:=nextD fd) (by omega) (by omega)) (dnext_lim (n:=nextD fd) (by omega) (by omega)) (by decide)) (by omega)) rfl rfl rfl rfl fun w38 a st hF=>?_
    by_cases hc39:kaV (((nextD fd:Int):Rat))%12≠kaV (hhi wax ((nextD fd:Int):Rat) ((nextD fd+1:Int):Rat) 10)%12
    ·refine E.opv hF (r_bin (hF.at 2 rfl) (hF.at 0 rfl) eg_scalar (bi_int (ic_neq (c:=true) (dec_tt hc39)) (by simp))) rfl rfl rfl rfl fun a hF=>?_
     refine E.nil ?_
     refine wp_cond_true (hF.at 0 rfl) ?_
     refine E.seq ?_
     refine E.opv hF (r_move (hF.at 4 rfl)) rfl rfl rfl rfl fun a hF=>?_
     refine E.opv hF (r_bin (hF.at 0 rfl) ev_c eg_scalar (ia_add (by omega) (by omega))) rfl rfl rfl rfl fun a hF=>?_
     refine E.opset (L':=[(12,.int .i64 ((0+1)+1)),(64,.int .i64 ((0+1)+1)),(63,.int .i64 (0+1)),(62,.bool true),(61,.int .i64 (kaV (hhi wax ((nextD fd:Int):Rat) ((nextD fd+1:Int):Rat) 10)%12)),(60,.agg #[.bool b26,.slice ad26 n26 c26,.slice ae26 m26 d26]),(59,.int .i64 (kaV (((nextD fd:Int):Rat))%12)),(58,.int .i64 (0+1)),(57,.int .i64 0),(56,.bool true),(55,.int .i64 (kaV (hhi wax ((fd:Int):Rat) ((fd+1:Int):Rat) 10)%12)),(54,.agg #[.bool b15,.slice ad15 n15 c15,.slice ae15 m15 d15]),(53,.int .i64 (kaV (((fd+1:Int):Rat))%12)),(11,.int .i64 (kaV (((nextD fd:Int):Rat))%12)),(10,.int .i64 (kaV (((fd+1:Int):Rat))%12)),(37,.bool false),(36,.int .i64 (nextD fd)),(35,.pointer (some ⟨g3,1,none⟩)),(34,.int .i64 z),(9,.int .i64 z),(8,.int .i64 e),(7,.pointer (some ⟨g7,0,none⟩)),(5,.pointer (some ⟨g5,0,none⟩)),(3,.pointer (some ⟨g3,0,none⟩)),(2,.bool false)]) hF (r_assign (hF.at 0 rfl)) rfl rfl rfl rfl fun a hF=>?_
     refine E.nil ?_
     refine wp_seq ?_
     refine E.rg 31 mixed hF [65,66,67,68,69,70,71,72,73,74,75,76,77,78,79,80,81,82,83,84,85,86,87,88,89,90,91,92,93,94,95] [_,.ex (.int .i64 (smV fd%12)),_,_,.ex (.bool true),.ex (.bool true),.ex (.pointer (some ⟨g3,3,none⟩)),.ex (.int .i64 (smV (nextD fd)%12)),.ex (.agg #[.bool b26,.slice ad26 n26 c26,.slice ae26 m26 d26]),.ex (.int .i64 (kaV (hhi wax ((nextD fd:Int):Rat) ((nextD fd+1:Int):Rat) 10)%12)),.ex (.bool true),.ex (.bool true),.ex (.bool true),.ex (.pointer (some ⟨g3,0,none⟩)),.ex (.int .i64 fd),.ex (.int .i64 (smV fd%12)),.ex (.pointer (some ⟨g3,2,none⟩)),.ex (.int .i64 (smV fd%12)),.ex (.bool true),.ex (.bool true),.ex (.bool true),.ex (.pointer (some ⟨g3,3,none⟩)),.ex (.int .i64 (smV (nextD fd)%12)),.ex (.pointer (some ⟨g3,2,none⟩)),.ex (.int .i64 (smV fd%12)),.ex (.int .i64 ((smV (nextD fd)%12)-(smV fd%12))),.ex (.int .i64 (((smV (nextD fd)%12)-(smV fd%12))+12)),.ex (.int .i64 ((((smV (nextD fd)%12)-(smV fd%12))+12)%12)),.ex (.int .i64 e),.ex (.int .i64 ((0+1)+1)),.ex (.int .i64 (e+((0+1)+1)))] (by decide+kernel) rfl rfl rfl ⟨rd rfl rfl fun a' w' hF' hb=>(r_field (hF'.at 23 rfl) (fa_MMO_2 (p:=2) rfl)),(by intro a' w' hF' hb hd;have e65:=sHe hd 0 65 rfl rfl rfl rfl;exact dv0 (r_load e65 (ldb_int (v:= .int .i64 (smV fd%12)) ((st.bk 2 rfl).below hb) rfl)) rfl rfl rfl),rb st ty_Rat 22 1 rfl,ck st k31 rfl fun _ s=>ex_ret (moSign12_any _ (hhi wax ((fd:Int):Rat) ((fd+1:Int):Rat) 10) 14 _ (hT.below s.bel) (s.f 0 rfl) (hhi_lim (p:=wax) (i:=2) (j:=2) (lim64 (n:=fd) (by omega) (by omega)) (dnext_lim (n:=fd) (by omega) (by omega)) (by decide)) (by omega)),(by intro a' w' hF' hb hd;have e66:=sHe hd 0 66 rfl rfl rfl rfl;have e68:=sHe hd 1 68 rfl rfl rfl rfl;exact dv0 (r_bin e66 e68 eg_scalar (bi_int (ic_eql (c:=true) (dec_tt (by omega))) (by simp))) rfl rfl rfl),(by intro a' w' hF' hb hd;have e69:=sHe hd 0 69 rfl rfl rfl rfl;exact dv0 (r_move e69) rfl rfl rfl),(by intro a' w' hF' hb hd;have e70:=sHe hd 0 70 rfl rfl rfl rfl;exact dv1 (wanted_by rfl rfl e70 rfl) (r_field (hF'.at 23 rfl) (fa_MMO_3 (p:=3) rfl)) rfl rfl),(by intro a' w' hF' hb hd;have e70:=sHe hd 1 70 rfl rfl rfl rfl;have e71:=sHe hd 0 71 rfl rfl rfl rfl;exact dv1 (wanted_by rfl rfl e70 rfl) (r_load e71 (ldb_int (v:= .int .i64 (smV (nextD fd)%12)) ((st.bk 2 rfl).below hb) rfl)) rfl rfl),(by intro a' w' hF' hb hd;have e70:=sHe hd 0 70 rfl rfl rfl rfl;exact dv1 (wanted_by rfl rfl e70 rfl) (r_load (hF'.at 21 rfl) (ld_all ty_Rat ((st.bk 0 rfl).below hb) rfl)) rfl rfl),(by intro a' w' hF' hb hd;have e70:=sHe hd 1 70 rfl rfl rfl rfl;have e73:=sHe hd 0 73 rfl rfl rfl rfl;exact dcx1 (wanted_by rfl rfl e70 rfl) (r_call Tryz.func31 en31.1 en31.2 (map1 e73)) (moSign12_any _ _ 14 _ (hT.below (below_to st.bel hb)) ((st.f 1 rfl).below hb) (hhi_lim (p:=wax) (i:=2) (j:=2) (lim64 (n:=nextD fd) (by omega) (by omega)) (dnext_lim (n:=nextD fd) (by omega) (by omega)) (by decide)) (by omega)) (fun _=>rfl) rfl),(by intro a' w' hF' hb hd;have e70:=sHe hd 2 70 rfl rfl rfl rfl;have e72:=sHe hd 0 72 rfl rfl rfl rfl;have e74:=sHe hd 1 74 rfl rfl rfl rfl;exact dv1 (wanted_by rfl rfl e70 rfl) (r_bin e72 e74 eg_scalar (bi_int (ic_eql (c:=true) (dec_tt (by omega))) (by simp))) rfl rfl),(by intro a' w' hF' hb hd;have e70:=sHe hd 0 70 rfl rfl rfl rfl;have e75:=sHe hd 1 75 rfl rfl rfl rfl;exact dv0 (r_pick_t e70 e75) rfl rfl rfl),(by intro a' w' hF' hb hd;have e76:=sHe hd 0 76 rfl rfl rfl rfl;exact dv0 (r_move e76) rfl rfl rfl),(by intro a' w' hF' hb hd;have e77:=sHe hd 0 77 rfl rfl rfl rfl;exact dv1 (wanted_by rfl rfl e77 rfl) (r_field (hF'.at 23 rfl) (fa_MMO_0 (p:=0) rfl)) rfl rfl),(by intro a' w' hF' hb hd;have e77:=sHe hd 1 77 rfl rfl rfl rfl;have e78:=sHe hd 0 78 rfl rfl rfl rfl;exact dv1 (wanted_by rfl rfl e77 rfl) (r_load e78 (ldb_i64 (v:= .int .i64 fd) ((st.bk 2 rfl).below hb) rfl)) rfl rfl),(by intro a' w' hF' hb hd;have e77:=sHe hd 1 77 rfl rfl rfl rfl;have e79:=sHe hd 0 79 rfl rfl rfl rfl;exact dcx1 (wanted_by rfl rfl e77 rfl) (r_call Tryz.func48 en48.1 en48.2 (map1 e79)) (moSignOf_any fd _ (hT.below (below_to st.bel hb)) (by omega) (by omega)) (fun _=>rfl) rfl),(by intro a' w' hF' hb hd;have e77:=sHe hd 0 77 rfl rfl rfl rfl;exact dv1 (wanted_by rfl rfl e77 rfl) (r_field (hF'.at 23 rfl) (fa_MMO_2 (p:=2) rfl)) rfl rfl),(by intro a' w' hF' hb hd;have e77:=sHe hd 1 77 rfl rfl rfl rfl;have e81:=sHe hd 0 81 rfl rfl rfl rfl;exact dv1 (wanted_by rfl rfl e77 rfl) (r_load e81 (ldb_int (v:= .int .i64 (smV fd%12)) ((st.bk 2 rfl).below hb) rfl)) rfl rfl),(by intro a' w' hF' hb hd;have e77:=sHe hd 2 77 rfl rfl rfl rfl;have e80:=sHe hd 0 80 rfl rfl rfl rfl;have e82:=sHe hd 1 82 rfl rfl rfl rfl;exact dv1 (wanted_by rfl rfl e77 rfl) (r_bin e80 e82 eg_scalar (bi_int (ic_eql (c:=true) (dec_tt (by omega))) (by simp))) rfl rfl),(by intro a' w' hF' hb hd;have e77:=sHe hd 0 77 rfl rfl rfl rfl;have e83:=sHe hd 1 83 rfl rfl rfl rfl;exact dv0 (r_pick_t e77 e83) rfl rfl rfl),(by intro a' w' hF' hb hd;have e84:=sHe hd 0 84 rfl rfl rfl rfl;exact dv0 (r_move e84) rfl rfl rfl),(by intro a' w' hF' hb hd;have e85:=sHe hd 0 85 rfl rfl rfl rfl;exact dv1 (wanted_by rfl rfl e85 rfl) (r_field (hF'.at 23 rfl) (fa_MMO_3 (p:=3) rfl)) rfl rfl),(by intro a' w' hF' hb hd;have e85:=sHe hd 1 85 rfl rfl rfl rfl;have e86:=sHe hd 0 86 rfl rfl rfl rfl;exact dv1 (wanted_by rfl rfl e85 rfl) (r_load e86 (ldb_int (v:= .int .i64 (smV (nextD fd)%12)) ((st.bk 2 rfl).below hb) rfl)) rfl rfl),(by intro a' w' hF' hb hd;have e85:=sHe hd 0 85 rfl rfl rfl rfl;exact dv1 (wanted_by rfl rfl e85 rfl) (r_field (hF'.at 23 rfl) (fa_MMO_2 (p:=2) rfl)) rfl rfl),(by intro a' w' hF' hb hd;have e85:=sHe hd 1 85 rfl rfl rfl rfl;have e88:=sHe hd 0 88 rfl rfl rfl rfl;exact dv1 (wanted_by rfl rfl e85 rfl) (r_load e88 (ldb_int (v:= .int .i64 (smV fd%12)) ((st.bk 2 rfl).below hb) rfl)) rfl rfl),(by intro a' w' hF' hb hd;have e85:=sHe hd 2 85 rfl rfl rfl rfl;have e87:=sHe hd 0 87 rfl rfl rfl rfl;have e89:=sHe hd 1 89 rfl rfl rfl rfl;exact dv1 (wanted_by rfl rfl e85 rfl) (r_bin e87 e89 eg_scalar (ia_sub (by omega) (by omega))) rfl rfl),(by intro a' w' hF' hb hd;have e85:=sHe hd 1 85 rfl rfl rfl rfl;have e90:=sHe hd 0 90 rfl rfl rfl rfl;exact dv1 (wanted_by rfl rfl e85 rfl) (r_bin e90 ev_c eg_scalar (ia_add (by omega) (by omega))) rfl rfl),(by intro a' w' hF' hb hd;have e85:=sHe hd 1 85 rfl rfl rfl rfl;have e91:=sHe hd 0 91 rfl rfl rfl rfl;exact dv1 (wanted_by rfl rfl e85 rfl) (r_bin e91 ev_c eg_scalar (id_remn (a:=((smV (nextD fd)%12)-(smV fd%12))+12) (b:=12) (by omega) (by omega))) rfl rfl),(by intro a' w' hF' hb hd;have e85:=sHe hd 0 85 rfl rfl rfl rfl;exact dv1 (wanted_by rfl rfl e85 rfl) (r_move (hF'.at 20 rfl)) rfl rfl),(by intro a' w' hF' hb hd;have e85:=sHe hd 0 85 rfl rfl rfl rfl;exact dv1 (wanted_by rfl rfl e85 rfl) (r_move (hF'.at 0 rfl)) rfl rfl),(by intro a' w' hF' hb hd;have e85:=sHe hd 2 85 rfl rfl rfl rfl;have e93:=sHe hd 0 93 rfl rfl rfl rfl;have e94:=sHe hd 1 94 rfl rfl rfl rfl;exact dv1 (wanted_by rfl rfl e85 rfl) (r_bin e93 e94 eg_scalar (ia_add (by omega) (by omega))) rfl rfl),trivial⟩ ?_
     intro a w40 hF bb hall
     replace st:=st.to bb
     replace hF:=rE hall hF 20 rfl rfl
     replace hF:=rE hall hF 27 rfl rfl
     replace hF:=rE hall hF 30 rfl rfl
     clear hall bb
     refine E.opvg hF (r_bin (hF.at 1 rfl) (hF.at 0 rfl) eg_scalar (bi_int (ic_eql (c:=true) (dec_tt (by omega))) (by simp))) (wanted_by rfl rfl (hF.at 2 rfl) rfl) rfl rfl rfl fun a hF=>?_
     refine E.opv hF (r_pick_t (hF.at 3 rfl) (hF.at 0 rfl)) rfl rfl rfl rfl fun a hF=>?_
     refine E.opset (L':=[(2,.bool true),(97,.bool true),(96,.bool true),(95,.int .i64 (e+((0+1)+1))),(92,.int .i64 ((((smV (nextD fd)%12)-(smV fd%12))+12)%12)),(85,.bool true),(12,.int .i64 ((0+1)+1)),(64,.int .i64 ((0+1)+1)),(63,.int .i64 (0+1)),(62,.bool true),(61,.int .i64 (kaV (hhi wax ((nextD fd:Int):Rat) ((nextD fd+1:Int):Rat) 10)%12)),(60,.agg #[.bool b26,.slice ad26 n26 c26,.slice ae26 m26 d26]),(59,.int .i64 (kaV (((nextD fd:Int):Rat))%12)),(58,.int .i64 (0+1)),(57,.int .i64 0),(56,.bool true),(55,.int .i64 (kaV (hhi wax ((fd:Int):Rat) ((fd+1:Int):Rat) 10)%12)),(54,.agg #[.bool b15,.slice ad15 n15 c15,.slice ae15 m15 d15]),(53,.int .i64 (kaV (((fd+1:Int):Rat))%12)),(11,.int .i64 (kaV (((nextD fd:Int):Rat))%12)),(10,.int .i64 (kaV (((fd+1:Int):Rat))%12)),(37,.bool false),(36,.int .i64 (nextD fd)),(35,.pointer (some ⟨g3,1,none⟩)),(34,.int .i64 z),(9,.int .i64 z),(8,.int .i64 e),(7,.pointer (some ⟨g7,0,none⟩)),(5,.pointer (some ⟨g5,0,none⟩)),(3,.pointer (some ⟨g3,0,none⟩))]) hF (r_assign (hF.at 0 rfl)) rfl rfl rfl rfl fun a hF=>?_
     refine E.nil ?_
     refine wp_ret ?_
     have bel:=st.bel
     refine bodyPost_ret (res_tmp Tryz.results11 (hF.at 0 rfl)) hF.dfr ?_
     exact⟨rfl,bel⟩
    ·refine E.opv hF (r_bin (hF.at 2 rfl) (hF.at 0 rfl) eg_scalar (bi_int (ic_neq (c:=false) (dec_ff hc39)) (by simp))) rfl rfl rfl rfl fun a hF=>?_
     refine E.nil ?_
     refine wp_cond_false (hF.at 0 rfl) ?_
     refine wp_skip ?_
     refine E.norm ?_
     refine wp_seq ?_
     refine E.rg 31 mixed hF [65,66,67,68,69,70,71,72,73,74,75,76,77,78,79,80,81,82,83,84,85,86,87,88,89,90,91,92,93,94,95] [_,.ex (.int .i64 (smV fd%12)),_,_,.ex (.bool true),.ex (.bool true),.ex (.pointer (some ⟨g3,3,none⟩)),.ex (.int .i64 (smV (nextD fd)%12)),.ex (.agg #[.bool b26,.slice ad26 n26 c26,.slice ae26 m26 d26]),.ex (.int .i64 (kaV (hhi wax ((nextD fd:Int):Rat) ((nextD fd+1:Int):Rat) 10)%12)),.ex (.bool true),.ex (.bool true),.ex (.bool true),.ex (.pointer (some ⟨g3,0,none⟩)),.ex (.int .i64 fd),.ex (.int .i64 (smV fd%12)),.ex (.pointer (some ⟨g3,2,none⟩)),.ex (.int .i64 (smV fd%12)),.ex (.bool true),.ex (.bool true),.ex (.bool true),.ex (.pointer (some ⟨g3,3,none⟩)),.ex (.int .i64 (smV (nextD fd)%12)),.ex (.pointer (some ⟨g3,2,none⟩)),.ex (.int .i64 (smV fd%12)),.ex (.int .i64 ((smV (nextD fd)%12)-(smV fd%12))),.ex (.int .i64 (((smV (nextD fd)%12)-(smV fd%12))+12)),.ex (.int .i64 ((((smV (nextD fd)%12)-(smV fd%12))+12)%12)),.ex (.int .i64 e),.ex (.int .i64 (0+1)),.ex (.int .i64 (e+(0+1)))] (by decide+kernel) rfl rfl rfl ⟨rd rfl rfl fun a' w' hF' hb=>(r_field (hF'.at 21 rfl) (fa_MMO_2 (p:=2) rfl)),(by intro a' w' hF' hb hd;have e65:=sHe hd 0 65 rfl rfl rfl rfl;exact dv0 (r_load e65 (ldb_int (v:= .int .i64 (smV fd%12)) ((st.bk 2 rfl).below hb) rfl)) rfl rfl rfl),rb st ty_Rat 20 1 rfl,ck st k31 rfl fun _ s=>ex_ret (moSign12_any _ (hhi wax ((fd:Int):Rat) ((fd+1:Int):Rat) 10) 14 _ (hT.below s.bel) (s.f 0 rfl) (hhi_lim (p:=wax) (i:=2) (j:=2) (lim64 (n:=fd) (by omega) (by omega)) (dnext_lim (n:=fd) (by omega) (by omega)) (by decide)) (by omega)),(by intro a' w' hF' hb hd;have e66:=sHe hd 0 66 rfl rfl rfl rfl;have e68:=sHe hd 1 68 rfl rfl rfl rfl;exact dv0 (r_bin e66 e68 eg_scalar (bi_int (ic_eql (c:=true) (dec_tt (by omega))) (by simp))) rfl rfl rfl),(by intro a' w' hF' hb hd;have e69:=sHe hd 0 69 rfl rfl rfl rfl;exact dv0 (r_move e69) rfl rfl rfl),(by intro a' w' hF' hb hd;have e70:=sHe hd 0 70 rfl rfl rfl rfl;exact dv1 (wanted_by rfl rfl e70 rfl) (r_field (hF'.at 21 rfl) (fa_MMO_3 (p:=3) rfl)) rfl rfl),(by intro a' w' hF' hb hd;have e70:=sHe hd 1 70 rfl rfl rfl rfl;have e71:=sHe hd 0 71 rfl rfl rfl rfl;exact dv1 (wanted_by rfl rfl e70 rfl) (r_load e71 (ldb_int (v:= .int .i64 (smV (nextD fd)%12)) ((st.bk 2 rfl).below hb) rfl)) rfl rfl),(by intro a' w' hF' hb hd;have e70:=sHe hd 0 70 rfl rfl rfl rfl;exact dv1 (wanted_by rfl rfl e70 rfl) (r_load (hF'.at 19 rfl) (ld_all ty_Rat ((st.bk 0 rfl).below hb) rfl)) rfl rfl),(by intro a' w' hF' hb hd;have e70:=sHe hd 1 70 rfl rfl rfl rfl;have e73:=sHe hd 0 73 rfl rfl rfl rfl;exact dcx1 (wanted_by rfl rfl e70 rfl) (r_call Tryz.func31 en31.1 en31.2 (map1 e73)) (moSign12_any _ _ 14 _ (hT.below (below_to st.bel hb)) ((st.f 1 rfl).below hb) (hhi_lim (p:=wax) (i:=2) (j:=2) (lim64 (n:=nextD fd) (by omega) (by omega)) (dnext_lim (n:=nextD fd) (by omega) (by omega)) (by decide)) (by omega)) (fun _=>rfl) rfl),(by intro a' w' hF' hb hd;have e70:=sHe hd 2 70 rfl rfl rfl rfl;have e72:=sHe hd 0 72 rfl rfl rfl rfl;have e74:=sHe hd 1 74 rfl rfl rfl rfl;exact dv1 (wanted_by rfl rfl e70 rfl) (r_bin e72 e74 eg_scalar (bi_int (ic_eql (c:=true) (dec_tt (by omega))) (by simp))) rfl rfl),(by intro a' w' hF' hb hd;have e70:=sHe hd 0 70 rfl rfl rfl rfl;have e75:=sHe hd 1 75 rfl rfl rfl rfl;exact dv0 (r_pick_t e70 e75) rfl rfl rfl),(by intro a' w' hF' hb hd;have e76:=sHe hd 0 76 rfl rfl rfl rfl;exact dv0 (r_move e76) rfl rfl rfl),(by intro a' w' hF' hb hd;have e77:=sHe hd 0 77 rfl rfl rfl rfl;exact dv1 (wanted_by rfl rfl e77 rfl) (r_field (hF'.at 21 rfl) (fa_MMO_0 (p:=0) rfl)) rfl rfl),(by intro a' w' hF' hb hd;have e77:=sHe hd 1 77 rfl rfl rfl rfl;have e78:=sHe hd 0 78 rfl rfl rfl rfl;exact dv1 (wanted_by rfl rfl e77 rfl) (r_load e78 (ldb_i64 (v:= .int .i64 fd) ((st.bk 2 rfl).below hb) rfl)) rfl rfl),(by intro a' w' hF' hb hd;have e77:=sHe hd 1 77 rfl rfl rfl rfl;have e79:=sHe hd 0 79 rfl rfl rfl rfl;exact dcx1 (wanted_by rfl rfl e77 rfl) (r_call Tryz.func48 en48.1 en48.2 (map1 e79)) (moSignOf_any fd _ (hT.below (below_to st.bel hb)) (by omega) (by omega)) (fun _=>rfl) rfl),(by intro a' w' hF' hb hd;have e77:=sHe hd 0 77 rfl rfl rfl rfl;exact dv1 (wanted_by rfl rfl e77 rfl) (r_field (hF'.at 21 rfl) (fa_MMO_2 (p:=2) rfl)) rfl rfl),(by intro a' w' hF' hb hd;have e77:=sHe hd 1 77 rfl rfl rfl rfl;have e81:=sHe hd 0 81 rfl rfl rfl rfl;exact dv1 (wanted_by rfl rfl e77 rfl) (r_load e81 (ldb_int (v:= .int .i64 (smV fd%12)) ((st.bk 2 rfl).below hb) rfl)) rfl rfl),(by intro a' w' hF' hb hd;have e77:=sHe hd 2 77 rfl rfl rfl rfl;have e80:=sHe hd 0 80 rfl rfl rfl rfl;have e82:=sHe hd 1 82 rfl rfl rfl rfl;exact dv1 (wanted_by rfl rfl e77 rfl) (r_bin e80 e82 eg_scalar (bi_int (ic_eql (c:=true) (dec_tt (by omega))) (by simp))) rfl rfl),(by intro a' w' hF' hb hd;have e77:=sHe hd 0 77 rfl rfl rfl rfl;have e83:=sHe hd 1 83 rfl rfl rfl rfl;exact dv0 (r_pick_t e77 e83) rfl rfl rfl),(by intro a' w' hF' hb hd;have e84:=sHe hd 0 84 rfl rfl rfl rfl;exact dv0 (r_move e84) rfl rfl rfl),(by intro a' w' hF' hb hd;have e85:=sHe hd 0 85 rfl rfl rfl rfl;exact dv1 (wanted_by rfl rfl e85 rfl) (r_field (hF'.at 21 rfl) (fa_MMO_3 (p:=3) rfl)) rfl rfl),(by intro a' w' hF' hb hd;have e85:=sHe hd 1 85 rfl rfl rfl rfl;have e86:=sHe hd 0 86 rfl rfl rfl rfl;exact dv1 (wanted_by rfl rfl e85 rfl) (r_load e86 (ldb_int (v:= .int .i64 (smV (nextD fd)%12)) ((st.bk 2 rfl).below hb) rfl)) rfl rfl),(by intro a' w' hF' hb hd;have e85:=sHe hd 0 85 rfl rfl rfl rfl;exact dv1 (wanted_by rfl rfl e85 rfl) (r_field (hF'.at 21 rfl) (fa_MMO_2 (p:=2) rfl)) rfl rfl),(by intro a' w' hF' hb hd;have e85:=sHe hd 1 85 rfl rfl rfl rfl;have e88:=sHe hd 0 88 rfl rfl rfl rfl;exact dv1 (wanted_by rfl rfl e85 rfl) (r_load e88 (ldb_int (v:= .int .i64 (smV fd%12)) ((st.bk 2 rfl).below hb) rfl)) rfl rfl),(by intro a' w' hF' hb hd;have e85:=sHe hd 2 85 rfl rfl rfl rfl;have e87:=sHe hd 0 87 rfl rfl rfl rfl;have e89:=sHe hd 1 89 rfl rfl rfl rfl;exact dv1 (wanted_by rfl rfl e85 rfl) (r_bin e87 e89 eg_scalar (ia_sub (by omega) (by omega))) rfl rfl),(by intro a' w' hF' hb hd;have e85:=sHe hd 1 85 rfl rfl rfl rfl;have e90:=sHe hd 0 90 rfl rfl rfl rfl;exact dv1 (wanted_by rfl rfl e85 rfl) (r_bin e90 ev_c eg_scalar (ia_add (by omega) (by omega))) rfl rfl),(by intro a' w' hF' hb hd;have e85:=sHe hd 1 85 rfl rfl rfl rfl;have e91:=sHe hd 0 91 rfl rfl rfl rfl;exact dv1 (wanted_by rfl rfl e85 rfl) (r_bin e91 ev_c eg_scalar (id_remn (a:=((smV (nextD fd)%12)-(smV fd%12))+12) (b:=12) (by omega) (by omega))) rfl rfl),(by intro a' w' hF' hb hd;have e85:=sHe hd 0 85 rfl rfl rfl rfl;exact dv1 (wanted_by rfl rfl e85 rfl) (r_move (hF'.at 18 rfl)) rfl rfl),(by intro a' w' hF' hb hd;have e85:=sHe hd 0 85 rfl rfl rfl rfl;exact dv1 (wanted_by rfl rfl e85 rfl) (r_move (hF'.at 4 rfl)) rfl rfl),(by intro a' w' hF' hb hd;have e85:=sHe hd 2 85 rfl rfl rfl rfl;have e93:=sHe hd 0 93 rfl rfl rfl rfl;have e94:=sHe hd 1 94 rfl rfl rfl rfl;exact dv1 (wanted_by rfl rfl e85 rfl) (r_bin e93 e94 eg_scalar (ia_add (by omega) (by omega))) rfl rfl),trivial⟩ ?_
     intro a w41 hF bb hall
     replace st:=st.to bb
     replace hF:=rE hall hF 20 rfl rfl
     replace hF:=rE hall hF 27 rfl rfl
     replace hF:=rE hall hF 30 rfl rfl
     clear hall bb
     refine E.opvg hF (r_bin (hF.at 1 rfl) (hF.at 0 rfl) eg_scalar (bi_int (ic_eql (c:=true) (dec_tt (by omega))) (by simp))) (wanted_by rfl rfl (hF.at 2 rfl) rfl) rfl rfl rfl fun a hF=>?_
     refine E.opv hF (r_pick_t (hF.at 3 rfl) (hF.at 0 rfl)) rfl rfl rfl rfl fun a hF=>?_
     refine E.opset (L':=[(2,.bool true),(97,.bool true),(96,.bool true),(95,.int .i64 (e+(0+1))),(92,.int .i64 ((((smV (nextD fd)%12)-(smV fd%12))+12)%12)),(85,.bool true),(62,.bool false),(61,.int .i64 (kaV (hhi wax ((nextD fd:Int):Rat) ((nextD fd+1:Int):Rat) 10)%12)),(60,.agg #[.bool b26,.slice ad26 n26 c26,.slice ae26 m26 d26]),(59,.int .i64 (kaV (((nextD fd:Int):Rat))%12)),(12,.int .i64 (0+1)),(58,.int .i64 (0+1)),(57,.int .i64 0),(56,.bool true),(55,.int .i64 (kaV (hhi wax ((fd:Int):Rat) ((fd+1:Int):Rat) 10)%12)),(54,.agg #[.bool b15,.slice ad15 n15 c15,.slice ae15 m15 d15]),(53,.int .i64 (kaV (((fd+1:Int):Rat))%12)),(11,.int .i64 (kaV (((nextD fd:Int):Rat))%12)),(10,.int .i64 (kaV (((fd+1:Int):Rat))%12)),(37,.bool false),(36,.int .i64 (nextD fd)),(35,.pointer (some ⟨g3,1,none⟩)),(34,.int .i64 z),(9,.int .i64 z),(8,.int .i64 e),(7,.pointer (some ⟨g7,0,none⟩)),(5,.pointer (some ⟨g5,0,none⟩)),(3,.pointer (some ⟨g3,0,none⟩))]) hF (r_assign (hF.at 0 rfl)) rfl rfl rfl rfl fun a hF=>?_
     refine E.nil ?_
     refine wp_ret ?_
     have bel:=st.bel
     refine bodyPost_ret (res_tmp Tryz.results11 (hF.at 0 rfl)) hF.dfr ?_
     exact⟨rfl,bel⟩
   ·refine E.opv hF (r_bin (hF.at 2 rfl) (hF.at 0 rfl) eg_scalar (bi_int (ic_neq (c:=false) (dec_ff hc37)) (by simp))) rfl rfl rfl rfl fun a hF=>?_
    refine E.nil ?_
    refine wp_cond_false (hF.at 0 rfl) ?_
    refine wp_skip ?_
    refine E.norm ?_
    refine wp_seq ?_
    refine wp_seq ?_
    refine E.seq ?_
    refine E.opv hF (r_move (hF.at 5 rfl)) rfl rfl rfl rfl fun a hF=>?_
    refine E.opv hF (r_load (hF.at 14 rfl) (ld_all ty_Rat (st.bk 0 rfl) rfl)) rfl rfl rfl rfl fun a hF=>?_
    refine S.callx st hF (rgc k31 (map1 (hF.at 0 rfl))) (moSign12_any _ _ 14 _ (hT.below st.bel) (st.f 1 rfl) (hhi_lim (p:=wax) (i:=2) (j:=2) (lim64 (n:=nextD fd) (by omega) (by omega)) (dnext_lim (n:=nextD fd) (by omega) (by omega)) (by decide)) (by omega)) rfl rfl rfl rfl fun w42 a st hF=>?_
    by_cases hc43:kaV (((nextD fd:Int):Rat))%12≠kaV (hhi wax ((nextD fd:Int):Rat) ((nextD fd+1:Int):Rat) 10)%12
    ·refine E.opv hF (r_bin (hF.at 2 rfl) (hF.at 0 rfl) eg_scalar (bi_int (ic_neq (c:=true) (dec_tt hc43)) (by simp))) rfl rfl rfl rfl fun a hF=>?_
     refine E.nil ?_
     refine wp_cond_true (hF.at 0 rfl) ?_
     refine E.seq ?_
     refine E.opv hF (r_move (hF.at 8 rfl)) rfl rfl rfl rfl fun a hF=>?_
     refine E.opv hF (r_bin (hF.at 0 rfl) ev_c eg_scalar (ia_add (by omega) (by omega))) rfl rfl rfl rfl fun a hF=>?_
     refine E.opset (L':=[(12,.int .i64 (0+1)),(64,.int .i64 (0+1)),(63,.int .i64 0),(62,.bool true),(61,.int .i64 (kaV (hhi wax ((nextD fd:Int):Rat) ((nextD fd+1:Int):Rat) 10)%12)),(60,.agg #[.bool b26,.slice ad26 n26 c26,.slice ae26 m26 d26]),(59,.int .i64 (kaV (((nextD fd:Int):Rat))%12)),(56,.bool false),(55,.int .i64 (kaV (hhi wax ((fd:Int):Rat) ((fd+1:Int):Rat) 10)%12)),(54,.agg #[.bool b15,.slice ad15 n15 c15,.slice ae15 m15 d15]),(53,.int .i64 (kaV (((fd+1:Int):Rat))%12)),(11,.int .i64 (kaV (((nextD fd:Int):Rat))%12)),(10,.int .i64 (kaV (((fd+1:Int):Rat))%12)),(37,.bool false),(36,.int .i64 (nextD fd)),(35,.pointer (some ⟨g3,1,none⟩)),(34,.int .i64 z),(9,.int .i64 z),(8,.int .i64 e),(7,.pointer (some ⟨g7,0,none⟩)),(5,.pointer (some ⟨g5,0,none⟩)),(3,.pointer (some ⟨g3,0,none⟩)),(2,.bool false)]) hF (r_assign (hF.at 0 rfl)) rfl rfl rfl rfl fun a hF=>?_
     refine E.nil ?_
     refine wp_seq ?_
     refine E.rg 31 mixed hF [65,66,67,68,69,70,71,72,73,74,75,76,77,78,79,80,81,82,83,84,85,86,87,88,89,90,91,92,93,94,95] [_,.ex (.int .i64 (smV fd%12)),_,_,.ex (.bool true),.ex (.bool true),.ex (.pointer (some ⟨g3,3,none⟩)),.ex (.int .i64 (smV (nextD fd)%12)),.ex (.agg #[.bool b26,.slice ad26 n26 c26,.slice ae26 m26 d26]),.ex (.int .i64 (kaV (hhi wax ((nextD fd:Int):Rat) ((nextD fd+1:Int):Rat) 10)%12)),.ex (.bool true),.ex (.bool true),.ex (.bool true),.ex (.pointer (some ⟨g3,0,none⟩)),.ex (.int .i64 fd),.ex (.int .i64 (smV fd%12)),.ex (.pointer (some ⟨g3,2,none⟩)),.ex (.int .i64 (smV fd%12)),.ex (.bool true),.ex (.bool true),.ex (.bool true),.ex (.pointer (some ⟨g3,3,none⟩)),.ex (.int .i64 (smV (nextD fd)%12)),.ex (.pointer (some ⟨g3,2,none⟩)),.ex (.int .i64 (smV fd%12)),.ex (.int .i64 ((smV (nextD fd)%12)-(smV fd%12))),.ex (.int .i64 (((smV (nextD fd)%12)-(smV fd%12))+12)),.ex (.int .i64 ((((smV (nextD fd)%12)-(smV fd%12))+12)%12)),.ex (.int .i64 e),.ex (.int .i64 (0+1)),.ex (.int .i64 (e+(0+1)))] (by decide+kernel) rfl rfl rfl ⟨rd rfl rfl fun a' w' hF' hb=>(r_field (hF'.at 21 rfl) (fa_MMO_2 (p:=2) rfl)),(by intro a' w' hF' hb hd;have e65:=sHe hd 0 65 rfl rfl rfl rfl;exact dv0 (r_load e65 (ldb_int (v:= .int .i64 (smV fd%12)) ((st.bk 2 rfl).below hb) rfl)) rfl rfl rfl),rb st ty_Rat 20 1 rfl,ck st k31 rfl fun _ s=>ex_ret (moSign12_any _ (hhi wax ((fd:Int):Rat) ((fd+1:Int):Rat) 10) 14 _ (hT.below s.bel) (s.f 0 rfl) (hhi_lim (p:=wax) (i:=2) (j:=2) (lim64 (n:=fd) (by omega) (by omega)) (dnext_lim (n:=fd) (by omega) (by omega)) (by decide)) (by omega)),(by intro a' w' hF' hb hd;have e66:=sHe hd 0 66 rfl rfl rfl rfl;have e68:=sHe hd 1 68 rfl rfl rfl rfl;exact dv0 (r_bin e66 e68 eg_scalar (bi_int (ic_eql (c:=true) (dec_tt (by omega))) (by simp))) rfl rfl rfl),(by intro a' w' hF' hb hd;have e69:=sHe hd 0 69 rfl rfl rfl rfl;exact dv0 (r_move e69) rfl rfl rfl),(by intro a' w' hF' hb hd;have e70:=sHe hd 0 70 rfl rfl rfl rfl;exact dv1 (wanted_by rfl rfl e70 rfl) (r_field (hF'.at 21 rfl) (fa_MMO_3 (p:=3) rfl)) rfl rfl),(by intro a' w' hF' hb hd;have e70:=sHe hd 1 70 rfl rfl rfl rfl;have e71:=sHe hd 0 71 rfl rfl rfl rfl;exact dv1 (wanted_by rfl rfl e70 rfl) (r_load e71 (ldb_int (v:= .int .i64 (smV (nextD fd)%12)) ((st.bk 2 rfl).below hb) rfl)) rfl rfl),(by intro a' w' hF' hb hd;have e70:=sHe hd 0 70 rfl rfl rfl rfl;exact dv1 (wanted_by rfl rfl e70 rfl) (r_load (hF'.at 19 rfl) (ld_all ty_Rat ((st.bk 0 rfl).below hb) rfl)) rfl rfl),(by intro a' w' hF' hb hd;have e70:=sHe hd 1 70 rfl rfl rfl rfl;have e73:=sHe hd 0 73 rfl rfl rfl rfl;exact dcx1 (wanted_by rfl rfl e70 rfl) (r_call Tryz.func31 en31.1 en31.2 (map1 e73)) (moSign12_any _ _ 14 _ (hT.below (below_to st.bel hb)) ((st.f 1 rfl).below hb) (hhi_lim (p:=wax) (i:=2) (j:=2) (lim64 (n:=nextD fd) (by omega) (by omega)) (dnext_lim (n:=nextD fd) (by omega) (by omega)) (by decide)) (by omega)) (fun _=>rfl) rfl),(by intro a' w' hF' hb hd;have e70:=sHe hd 2 70 rfl rfl rfl rfl;have e72:=sHe hd 0 72 rfl rfl rfl rfl;have e74:=sHe hd 1 74 rfl rfl rfl rfl;exact dv1 (wanted_by rfl rfl e70 rfl) (r_bin e72 e74 eg_scalar (bi_int (ic_eql (c:=true) (dec_tt (by omega))) (by simp))) rfl rfl),(by intro a' w' hF' hb hd;have e70:=sHe hd 0 70 rfl rfl rfl rfl;have e75:=sHe hd 1 75 rfl rfl rfl rfl;exact dv0 (r_pick_t e70 e75) rfl rfl rfl),(by intro a' w' hF' hb hd;have e76:=sHe hd 0 76 rfl rfl rfl rfl;exact dv0 (r_move e76) rfl rfl rfl),(by intro a' w' hF' hb hd;have e77:=sHe hd 0 77 rfl rfl rfl rfl;exact dv1 (wanted_by rfl rfl e77 rfl) (r_field (hF'.at 21 rfl) (fa_MMO_0 (p:=0) rfl)) rfl rfl),(by intro a' w' hF' hb hd;have e77:=sHe hd 1 77 rfl rfl rfl rfl;have e78:=sHe hd 0 78 rfl rfl rfl rfl;exact dv1 (wanted_by rfl rfl e77 rfl) (r_load e78 (ldb_i64 (v:= .int .i64 fd) ((st.bk 2 rfl).below hb) rfl)) rfl rfl),(by intro a' w' hF' hb hd;have e77:=sHe hd 1 77 rfl rfl rfl rfl;have e79:=sHe hd 0 79 rfl rfl rfl rfl;exact dcx1 (wanted_by rfl rfl e77 rfl) (r_call Tryz.func48 en48.1 en48.2 (map1 e79)) (moSignOf_any fd _ (hT.below (below_to st.bel hb)) (by omega) (by omega)) (fun _=>rfl) rfl),(by intro a' w' hF' hb hd;have e77:=sHe hd 0 77 rfl rfl rfl rfl;exact dv1 (wanted_by rfl rfl e77 rfl) (r_field (hF'.at 21 rfl) (fa_MMO_2 (p:=2) rfl)) rfl rfl),(by intro a' w' hF' hb hd;have e77:=sHe hd 1 77 rfl rfl rfl rfl;have e81:=sHe hd 0 81 rfl rfl rfl rfl;exact dv1 (wanted_by rfl rfl e77 rfl) (r_load e81 (ldb_int (v:= .int .i64 (smV fd%12)) ((st.bk 2 rfl).below hb) rfl)) rfl rfl),(by intro a' w' hF' hb hd;have e77:=sHe hd 2 77 rfl rfl rfl rfl;have e80:=sHe hd 0 80 rfl rfl rfl rfl;have e82:=sHe hd 1 82 rfl rfl rfl rfl;exact dv1 (wanted_by rfl rfl e77 rfl) (r_bin e80 e82 eg_scalar (bi_int (ic_eql (c:=true) (dec_tt (by omega))) (by simp))) rfl rfl),(by intro a' w' hF' hb hd;have e77:=sHe hd 0 77 rfl rfl rfl rfl;have e83:=sHe hd 1 83 rfl rfl rfl rfl;exact dv0 (r_pick_t e77 e83) rfl rfl rfl),(by intro a' w' hF' hb hd;have e84:=sHe hd 0 84 rfl rfl rfl rfl;exact dv0 (r_move e84) rfl rfl rfl),(by intro a' w' hF' hb hd;have e85:=sHe hd 0 85 rfl rfl rfl rfl;exact dv1 (wanted_by rfl rfl e85 rfl) (r_field (hF'.at 21 rfl) (fa_MMO_3 (p:=3) rfl)) rfl rfl),(by intro a' w' hF' hb hd;have e85:=sHe hd 1 85 rfl rfl rfl rfl;have e86:=sHe hd 0 86 rfl rfl rfl rfl;exact dv1 (wanted_by rfl rfl e85 rfl) (r_load e86 (ldb_int (v:= .int .i64 (smV (nextD fd)%12)) ((st.bk 2 rfl).below hb) rfl)) rfl rfl),(by intro a' w' hF' hb hd;have e85:=sHe hd 0 85 rfl rfl rfl rfl;exact dv1 (wanted_by rfl rfl e85 rfl) (r_field (hF'.at 21 rfl) (fa_MMO_2 (p:=2) rfl)) rfl rfl),(by intro a' w' hF' hb hd;have e85:=sHe hd 1 85 rfl rfl rfl rfl;have e88:=sHe hd 0 88 rfl rfl rfl rfl;exact dv1 (wanted_by rfl rfl e85 rfl) (r_load e88 (ldb_int (v:= .int .i64 (smV fd%12)) ((st.bk 2 rfl).below hb) rfl)) rfl rfl),(by intro a' w' hF' hb hd;have e85:=sHe hd 2 85 rfl rfl rfl rfl;have e87:=sHe hd 0 87 rfl rfl rfl rfl;have e89:=sHe hd 1 89 rfl rfl rfl rfl;exact dv1 (wanted_by rfl rfl e85 rfl) (r_bin e87 e89 eg_scalar (ia_sub (by omega) (by omega))) rfl rfl),(by intro a' w' hF' hb hd;have e85:=sHe hd 1 85 rfl rfl rfl rfl;have e90:=sHe hd 0 90 rfl rfl rfl rfl;exact dv1 (wanted_by rfl rfl e85 rfl) (r_bin e90 ev_c eg_scalar (ia_add (by omega) (by omega))) rfl rfl),(by intro a' w' hF' hb hd;have e85:=sHe hd 1 85 rfl rfl rfl rfl;have e91:=sHe hd 0 91 rfl rfl rfl rfl;exact dv1 (wanted_by rfl rfl e85 rfl) (r_bin e91 ev_c eg_scalar (id_remn (a:=((smV (nextD fd)%12)-(smV fd%12))+12) (b:=12) (by omega) (by omega))) rfl rfl),(by intro a' w' hF' hb hd;have e85:=sHe hd 0 85 rfl rfl rfl rfl;exact dv1 (wanted_by rfl rfl e85 rfl) (r_move (hF'.at 18 rfl)) rfl rfl),(by intro a' w' hF' hb hd;have e85:=sHe hd 0 85 rfl rfl rfl rfl;exact dv1 (wanted_by rfl rfl e85 rfl) (r_move (hF'.at 0 rfl)) rfl rfl),(by intro a' w' hF' hb hd;have e85:=sHe hd 2 85 rfl rfl rfl rfl;have e93:=sHe hd 0 93 rfl rfl rfl rfl;have e94:=sHe hd 1 94 rfl rfl rfl rfl;exact dv1 (wanted_by rfl rfl e85 rfl) (r_bin e93 e94 eg_scalar (ia_add (by omega) (by omega))) rfl rfl),trivial⟩ ?_
     intro a w44 hF bb hall
     replace st:=st.to bb
     replace hF:=rE hall hF 20 rfl rfl
     replace hF:=rE hall hF 27 rfl rfl
     replace hF:=rE hall hF 30 rfl rfl
     clear hall bb
     refine E.opvg hF (r_bin (hF.at 1 rfl) (hF.at 0 rfl) eg_scalar (bi_int (ic_eql (c:=true) (dec_tt (by omega))) (by simp))) (wanted_by rfl rfl (hF.at 2 rfl) rfl) rfl rfl rfl fun a hF=>?_
     refine E.opv hF (r_pick_t (hF.at 3 rfl) (hF.at 0 rfl)) rfl rfl rfl rfl fun a hF=>?_
     refine E.opset (L':=[(2,.bool true),(97,.bool true),(96,.bool true),(95,.int .i64 (e+(0+1))),(92,.int .i64 ((((smV (nextD fd)%12)-(smV fd%12))+12)%12)),(85,.bool true),(12,.int .i64 (0+1)),(64,.int .i64 (0+1)),(63,.int .i64 0),(62,.bool true),(61,.int .i64 (kaV (hhi wax ((nextD fd:Int):Rat) ((nextD fd+1:Int):Rat) 10)%12)),(60,.agg #[.bool b26,.slice ad26 n26 c26,.slice ae26 m26 d26]),(59,.int .i64 (kaV (((nextD fd:Int):Rat))%12)),(56,.bool false),(55,.int .i64 (kaV (hhi wax ((fd:Int):Rat) ((fd+1:Int):Rat) 10)%12)),(54,.agg #[.bool b15,.slice ad15 n15 c15,.slice ae15 m15 d15]),(53,.int .i64 (kaV (((fd+1:Int):Rat))%12)),(11,.int .i64 (kaV (((nextD fd:Int):Rat))%12)),(10,.int .i64 (kaV (((fd+1:Int):Rat))%12)),(37,.bool false),(36,.int .i64 (nextD fd)),(35,.pointer (some ⟨g3,1,none⟩)),(34,.int .i64 z),(9,.int .i64 z),(8,.int .i64 e),(7,.pointer (some ⟨g7,0,none⟩)),(5,.pointer (some ⟨g5,0,none⟩)),(3,.pointer (some ⟨g3,0,none⟩))]) hF (r_assign (hF.at 0 rfl)) rfl rfl rfl rfl fun a hF=>?_
     refine E.nil ?_
     refine wp_ret ?_
     have bel:=st.bel
     refine bodyPost_ret (res_tmp Tryz.results11 (hF.at 0 rfl)) hF.dfr ?_
     exact⟨rfl,bel⟩
    ·refine E.opv hF (r_bin (hF.at 2 rfl) (hF.at 0 rfl) eg_scalar (bi_int (ic_neq (c:=false) (dec_ff hc43)) (by simp))) rfl rfl rfl rfl fun a hF=>?_
     refine E.nil ?_
     refine wp_cond_false (hF.at 0 rfl) ?_
     refine wp_skip ?_
     refine E.norm ?_
     refine wp_seq ?_
     refine E.rg 31 mixed hF [65,66,67,68,69,70,71,72,73,74,75,76,77,78,79,80,81,82,83,84,85,86,87,88,89,90,91,92,93,94,95] [_,.ex (.int .i64 (smV fd%12)),_,_,.ex (.bool true),.ex (.bool true),.ex (.pointer (some ⟨g3,3,none⟩)),.ex (.int .i64 (smV (nextD fd)%12)),.ex (.agg #[.bool b26,.slice ad26 n26 c26,.slice ae26 m26 d26]),.ex (.int .i64 (kaV (hhi wax ((nextD fd:Int):Rat) ((nextD fd+1:Int):Rat) 10)%12)),.ex (.bool true),.ex (.bool true),.ex (.bool true),.ex (.pointer (some ⟨g3,0,none⟩)),.ex (.int .i64 fd),.ex (.int .i64 (smV fd%12)),.ex (.pointer (some ⟨g3,2,none⟩)),.ex (.int .i64 (smV fd%12)),.ex (.bool true),.ex (.bool true),.ex (.bool true),.ex (.pointer (some ⟨g3,3,none⟩)),.ex (.int .i64 (smV (nextD fd)%12)),.ex (.pointer (some ⟨g3,2,none⟩)),.ex (.int .i64 (smV fd%12)),.ex (.int .i64 ((smV (nextD fd)%12)-(smV fd%12))),.ex (.int .i64 (((smV (nextD fd)%12)-(smV fd%12))+12)),.ex (.int .i64 ((((smV (nextD fd)%12)-(smV fd%12))+12)%12)),.ex (.int .i64 e),.ex (.int .i64 0),.ex (.int .i64 (e+0))] (by decide+kernel) rfl rfl rfl ⟨rd rfl rfl fun a' w' hF' hb=>(r_field (hF'.at 19 rfl) (fa_MMO_2 (p:=2) rfl)),(by intro a' w' hF' hb hd;have e65:=sHe hd 0 65 rfl rfl rfl rfl;exact dv0 (r_load e65 (ldb_int (v:= .int .i64 (smV fd%12)) ((st.bk 2 rfl).below hb) rfl)) rfl rfl rfl),rb st ty_Rat 18 1 rfl,ck st k31 rfl fun _ s=>ex_ret (moSign12_any _ (hhi wax ((fd:Int):Rat) ((fd+1:Int):Rat) 10) 14 _ (hT.below s.bel) (s.f 0 rfl) (hhi_lim (p:=wax) (i:=2) (j:=2) (lim64 (n:=fd) (by omega) (by omega)) (dnext_lim (n:=fd) (by omega) (by omega)) (by decide)) (by omega)),(by intro a' w' hF' hb hd;have e66:=sHe hd 0 66 rfl rfl rfl rfl;have e68:=sHe hd 1 68 rfl rfl rfl rfl;exact dv0 (r_bin e66 e68 eg_scalar (bi_int (ic_eql (c:=true) (dec_tt (by omega))) (by simp))) rfl rfl rfl),(by intro a' w' hF' hb hd;have e69:=sHe hd 0 69 rfl rfl rfl rfl;exact dv0 (r_move e69) rfl rfl rfl),(by intro a' w' hF' hb hd;have e70:=sHe hd 0 70 rfl rfl rfl rfl;exact dv1 (wanted_by rfl rfl e70 rfl) (r_field (hF'.at 19 rfl) (fa_MMO_3 (p:=3) rfl)) rfl rfl),(by intro a' w' hF' hb hd;have e70:=sHe hd 1 70 rfl rfl rfl rfl;have e71:=sHe hd 0 71 rfl rfl rfl rfl;exact dv1 (wanted_by rfl rfl e70 rfl) (r_load e71 (ldb_int (v:= .int .i64 (smV (nextD fd)%12)) ((st.bk 2 rfl).below hb) rfl)) rfl rfl),(by intro a' w' hF' hb hd;have e70:=sHe hd 0 70 rfl rfl rfl rfl;exact dv1 (wanted_by rfl rfl e70 rfl) (r_load (hF'.at 17 rfl) (ld_all ty_Rat ((st.bk 0 rfl).below hb) rfl)) rfl rfl),(by intro a' w' hF' hb hd;have e70:=sHe hd 1 70 rfl rfl rfl rfl;have e73:=sHe hd 0 73 rfl rfl rfl rfl;exact dcx1 (wanted_by rfl rfl e70 rfl) (r_call Tryz.func31 en31.1 en31.2 (map1 e73)) (moSign12_any _ _ 14 _ (hT.below (below_to st.bel hb)) ((st.f 1 rfl).below hb) (hhi_lim (p:=wax) (i:=2) (j:=2) (lim64 (n:=nextD fd) (by omega) (by omega)) (dnext_lim (n:=nextD fd) (by omega) (by omega)) (by decide)) (by omega)) (fun _=>rfl) rfl),(by intro a' w' hF' hb hd;have e70:=sHe hd 2 70 rfl rfl rfl rfl;have e72:=sHe hd 0 72 rfl rfl rfl rfl;have e74:=sHe hd 1 74 rfl rfl rfl rfl;exact dv1 (wanted_by rfl rfl e70 rfl) (r_bin e72 e74 eg_scalar (bi_int (ic_eql (c:=true) (dec_tt (by omega))) (by simp))) rfl rfl),(by intro a' w' hF' hb hd;have e70:=sHe hd 0 70 rfl rfl rfl rfl;have e75:=sHe hd 1 75 rfl rfl rfl rfl;exact dv0 (r_pick_t e70 e75) rfl rfl rfl),(by intro a' w' hF' hb hd;have e76:=sHe hd 0 76 rfl rfl rfl rfl;exact dv0 (r_move e76) rfl rfl rfl),(by intro a' w' hF' hb hd;have e77:=sHe hd 0 77 rfl rfl rfl rfl;exact dv1 (wanted_by rfl rfl e77 rfl) (r_field (hF'.at 19 rfl) (fa_MMO_0 (p:=0) rfl)) rfl rfl),(by intro a' w' hF' hb hd;have e77:=sHe hd 1 77 rfl rfl rfl rfl;have e78:=sHe hd 0 78 rfl rfl rfl rfl;exact dv1 (wanted_by rfl rfl e77 rfl) (r_load e78 (ldb_i64 (v:= .int .i64 fd) ((st.bk 2 rfl).below hb) rfl)) rfl rfl),(by intro a' w' hF' hb hd;have e77:=sHe hd 1 77 rfl rfl rfl rfl;have e79:=sHe hd 0 79 rfl rfl rfl rfl;exact dcx1 (wanted_by rfl rfl e77 rfl) (r_call Tryz.func48 en48.1 en48.2 (map1 e79)) (moSignOf_any fd _ (hT.below (below_to st.bel hb)) (by omega) (by omega)) (fun _=>rfl) rfl),(by intro a' w' hF' hb hd;have e77:=sHe hd 0 77 rfl rfl rfl rfl;exact dv1 (wanted_by rfl rfl e77 rfl) (r_field (hF'.at 19 rfl) (fa_MMO_2 (p:=2) rfl)) rfl rfl),(by intro a' w' hF' hb hd;have e77:=sHe hd 1 77 rfl rfl rfl rfl;have e81:=sHe hd 0 81 rfl rfl rfl rfl;exact dv1 (wanted_by rfl rfl e77 rfl) (r_load e81 (ldb_int (v:= .int .i64 (smV fd%12)) ((st.bk 2 rfl).below hb) rfl)) rfl rfl),(by intro a' w' hF' hb hd;have e77:=sHe hd 2 77 rfl rfl rfl rfl;have e80:=sHe hd 0 80 rfl rfl rfl rfl;have e82:=sHe hd 1 82 rfl rfl rfl rfl;exact dv1 (wanted_by rfl rfl e77 rfl) (r_bin e80 e82 eg_scalar (bi_int (ic_eql (c:=true) (dec_tt (by omega))) (by simp))) rfl rfl),(by intro a' w' hF' hb hd;have e77:=sHe hd 0 77 rfl rfl rfl rfl;have e83:=sHe hd 1 83 rfl rfl rfl rfl;exact dv0 (r_pick_t e77 e83) rfl rfl rfl),(by intro a' w' hF' hb hd;have e84:=sHe hd 0 84 rfl rfl rfl rfl;exact dv0 (r_move e84) rfl rfl rfl),(by intro a' w' hF' hb hd;have e85:=sHe hd 0 85 rfl rfl rfl rfl;exact dv1 (wanted_by rfl rfl e85 rfl) (r_field (hF'.at 19 rfl) (fa_MMO_3 (p:=3) rfl)) rfl rfl),(by intro a' w' hF' hb hd;have e85:=sHe hd 1 85 rfl rfl rfl rfl;have e86:=sHe hd 0 86 rfl rfl rfl rfl;exact dv1 (wanted_by rfl rfl e85 rfl) (r_load e86 (ldb_int (v:= .int .i64 (smV (nextD fd)%12)) ((st.bk 2 rfl).below hb) rfl)) rfl rfl),(by intro a' w' hF' hb hd;have e85:=sHe hd 0 85 rfl rfl rfl rfl;exact dv1 (wanted_by rfl rfl e85 rfl) (r_field (hF'.at 19 rfl) (fa_MMO_2 (p:=2) rfl)) rfl rfl),(by intro a' w' hF' hb hd;have e85:=sHe hd 1 85 rfl rfl rfl rfl;have e88:=sHe hd 0 88 rfl rfl rfl rfl;exact dv1 (wanted_by rfl rfl e85 rfl) (r_load e88 (ldb_int (v:= .int .i64 (smV fd%12)) ((st.bk 2 rfl).below hb) rfl)) rfl rfl),(by intro a' w' hF' hb hd;have e85:=sHe hd 2 85 rfl rfl rfl rfl;have e87:=sHe hd 0 87 rfl rfl rfl rfl;have e89:=sHe hd 1 89 rfl rfl rfl rfl;exact dv1 (wanted_by rfl rfl e85 rfl) (r_bin e87 e89 eg_scalar (ia_sub (by omega) (by omega))) rfl rfl),(by intro a' w' hF' hb hd;have e85:=sHe hd 1 85 rfl rfl rfl rfl;have e90:=sHe hd 0 90 rfl rfl rfl rfl;exact dv1 (wanted_by rfl rfl e85 rfl) (r_bin e90 ev_c eg_scalar (ia_add (by omega) (by omega))) rfl rfl),(by intro a' w' hF' hb hd;have e85:=sHe hd 1 85 rfl rfl rfl rfl;have e91:=sHe hd 0 91 rfl rfl rfl rfl;exact dv1 (wanted_by rfl rfl e85 rfl) (r_bin e91 ev_c eg_scalar (id_remn (a:=((smV (nextD fd)%12)-(smV fd%12))+12) (b:=12) (by omega) (by omega))) rfl rfl),(by intro a' w' hF' hb hd;have e85:=sHe hd 0 85 rfl rfl rfl rfl;exact dv1 (wanted_by rfl rfl e85 rfl) (r_move (hF'.at 16 rfl)) rfl rfl),(by intro a' w' hF' hb hd;have e85:=sHe hd 0 85 rfl rfl rfl rfl;exact dv1 (wanted_by rfl rfl e85 rfl) (r_move (hF'.at 8 rfl)) rfl rfl),(by intro a' w' hF' hb hd;have e85:=sHe hd 2 85 rfl rfl rfl rfl;have e93:=sHe hd 0 93 rfl rfl rfl rfl;have e94:=sHe hd 1 94 rfl rfl rfl rfl;exact dv1 (wanted_by rfl rfl e85 rfl) (r_bin e93 e94 eg_scalar (ia_add (by omega) (by omega))) rfl rfl),trivial⟩ ?_
     intro a w45 hF bb hall
     replace st:=st.to bb
     replace hF:=rE hall hF 20 rfl rfl
     replace hF:=rE hall hF 27 rfl rfl
     replace hF:=rE hall hF 30 rfl rfl
     clear hall bb
     refine E.opvg hF (r_bin (hF.at 1 rfl) (hF.at 0 rfl) eg_scalar (bi_int (ic_eql (c:=true) (dec_tt (by omega))) (by simp))) (wanted_by rfl rfl (hF.at 2 rfl) rfl) rfl rfl rfl fun a hF=>?_
     refine E.opv hF (r_pick_t (hF.at 3 rfl) (hF.at 0 rfl)) rfl rfl rfl rfl fun a hF=>?_
     refine E.opset (L':=[(2,.bool true),(97,.bool true),(96,.bool true),(95,.int .i64 (e+0)),(92,.int .i64 ((((smV (nextD fd)%12)-(smV fd%12))+12)%12)),(85,.bool true),(62,.bool false),(61,.int .i64 (kaV (hhi wax ((nextD fd:Int):Rat) ((nextD fd+1:Int):Rat) 10)%12)),(60,.agg #[.bool b26,.slice ad26 n26 c26,.slice ae26 m26 d26]),(59,.int .i64 (kaV (((nextD fd:Int):Rat))%12)),(56,.bool false),(55,.int .i64 (kaV (hhi wax ((fd:Int):Rat) ((fd+1:Int):Rat) 10)%12)),(54,.agg #[.bool b15,.slice ad15 n15 c15,.slice ae15 m15 d15]),(53,.int .i64 (kaV (((fd+1:Int):Rat))%12)),(12,.int .i64 0),(11,.int .i64 (kaV (((nextD fd:Int):Rat))%12)),(10,.int .i64 (kaV (((fd+1:Int):Rat))%12)),(37,.bool false),(36,.int .i64 (nextD fd)),(35,.pointer (some ⟨g3,1,none⟩)),(34,.int .i64 z),(9,.int .i64 z),(8,.int .i64 e),(7,.pointer (some ⟨g7,0,none⟩)),(5,.pointer (some ⟨g5,0,none⟩)),(3,.pointer (some ⟨g3,0,none⟩))]) hF (r_assign (hF.at 0 rfl)) rfl rfl rfl rfl fun a hF=>?_
     refine E.nil ?_
     refine wp_ret ?_
     have bel:=st.bel
     refine bodyPost_ret (res_tmp Tryz.results11 (hF.at 0 rfl)) hF.dfr ?_
     exact⟨rfl,bel⟩
end Go.Proofs.YtnljadejcfgmaaaGreatDoor
