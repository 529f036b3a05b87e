import Derived.Test.YtacnedknihlfnaaKB28
namespace Go.Proofs.Ytacnedknihlfnaa
open Go.RowKit
set_option maxRecDepth 100000
set_option linter.unusedVariables false
set_option maxHeartbeats 8000000
theorem en52:(Try.f52.name == "runtime.NumGoroutine")=false∧Try.f52.body.isNone=false:=⟨by decide+kernel,by kernel_rfl⟩
theorem en50:(Try.f50.name == "runtime.NumGoroutine")=false∧Try.f50.body.isNone=false:=⟨by decide+kernel,by kernel_rfl⟩
theorem en29:(Try.f29.name == "runtime.NumGoroutine")=false∧Try.f29.body.isNone=false:=⟨by decide+kernel,by kernel_rfl⟩
theorem en32:(Try.f32.name == "runtime.NumGoroutine")=false∧Try.f32.body.isNone=false:=⟨by decide+kernel,by kernel_rfl⟩
theorem en95:(Try.f95.name == "runtime.NumGoroutine")=false∧Try.f95.body.isNone=false:=⟨by decide+kernel,by kernel_rfl⟩
theorem en78:(Try.f78.name == "runtime.NumGoroutine")=false∧Try.f78.body.isNone=false:=⟨by decide+kernel,by kernel_rfl⟩
theorem en53:(Try.f53.name == "runtime.NumGoroutine")=false∧Try.f53.body.isNone=false:=⟨by decide+kernel,by kernel_rfl⟩
theorem en25:(Try.f25.name == "runtime.NumGoroutine")=false∧Try.f25.body.isNone=false:=⟨by decide+kernel,by kernel_rfl⟩
theorem en54:(Try.f54.name == "runtime.NumGoroutine")=false∧Try.f54.body.isNone=false:=⟨by decide+kernel,by kernel_rfl⟩
theorem en26:(Try.f26.name == "runtime.NumGoroutine")=false∧Try.f26.body.isNone=false:=⟨by decide+kernel,by kernel_rfl⟩
theorem omMonth_any (w:World):
 Calls Try.prog 52 #[] w (RqPost w mmR):=by
 have st:=St.start w
 refine E.enter (nt:=2) (L:=[]) Try.func52 rfl rfl rfl args_nil ?_
 intro a hF
 refine wp_seq ?_
 refine E.seq ?_
 refine S.alloc st hF ty_Rat rfl rfl fun g0 w1 a st hF=>?_
 refine E.nil ?_
 refine wp_seq ?_
 refine E.seq ?_
 refine S.call st hF (r_call Try.func20 en20.1 en20.2 (map2 ev_c ev_c)) (rOf2_any (1577917500) (53433336) _ (by decide) (by decide) (by decide) (by decide)) (fun _ _ h=>h) Rq.cl rfl rfl rfl rfl fun vv3 w2 a st hF=>?_
 obtain⟨b5,ad5,n5,c5,ae5,m5,d5,rfl⟩:=Rq.form (st.f 0 rfl)
 refine S.sto st hF 0 rfl (hF.at 1 rfl) (hF.at 0 rfl) ty_Rat rfl rfl rfl rfl fun w6 a st hF=>?_
 refine E.nil ?_
 refine wp_ret ?_
 refine S.ret Try.results52 st hF (hF.at 1 rfl) 0 rfl ty_Rat rfl hF.dfr ?_
 have bel:=st.bel
 exact⟨_,rfl,(st.f 0 rfl),bel⟩
theorem omDay_any (w:World):
 Calls Try.prog 50 #[] w (RqPost w ldR):=by
 have st:=St.start w
 refine E.enter (nt:=2) (L:=[]) Try.func50 rfl rfl rfl args_nil ?_
 intro a hF
 refine wp_seq ?_
 refine E.seq ?_
 refine S.alloc st hF ty_Rat rfl rfl fun g0 w1 a st hF=>?_
 refine E.nil ?_
 refine wp_seq ?_
 refine E.seq ?_
 refine S.call st hF (r_call Try.func20 en20.1 en20.2 (map2 ev_c ev_c)) (rOf2_any (1577917500) (1603000080) _ (by decide) (by decide) (by decide) (by decide)) (fun _ _ h=>h) Rq.cl rfl rfl rfl rfl fun vv3 w2 a st hF=>?_
 obtain⟨b5,ad5,n5,c5,ae5,m5,d5,rfl⟩:=Rq.form (st.f 0 rfl)
 refine S.sto st hF 0 rfl (hF.at 1 rfl) (hF.at 0 rfl) ty_Rat rfl rfl rfl rfl fun w6 a st hF=>?_
 refine E.nil ?_
 refine wp_ret ?_
 refine S.ret Try.results50 st hF (hF.at 1 rfl) 0 rfl ty_Rat rfl hF.dfr ?_
 have bel:=st.bel
 exact⟨_,rfl,(st.f 0 rfl),bel⟩
theorem omflo_any (v1:Value) (qx:Rat) (k:Nat) (n:Int) (w:World) (h1:Rq w v1 qx) (hl:RLim qx k) (hk:k≤10000) (he:qx.floor=n) (hb0: -9223372036854775808≤n) (hb1:n≤9223372036854775807):
 Calls Try.prog 53 #[v1] w (ValPost w (.int .i64 n)):=by
 have st:=St.start w
 refine E.enter (nt:=11) (L:=[(0,v1)]) Try.func53 rfl rfl rfl (args_cons (i:=0) rfl args_nil) ?_
 intro a hF
 refine wp_seq ?_
 refine E.seq ?_
 obtain⟨b2,ad2,n2,c2,ae2,m2,d2,rfl⟩:=Rq.form h1
 refine S.box st hF (hF.at 0 rfl) rfl rfl fun g1 w1 a st hF=>?_
 refine E.opv hF (r_assign ev_c) rfl rfl rfl rfl fun a hF=>?_
 refine E.nil ?_
 refine wp_seq ?_
 refine E.seq ?_
 refine E.opv hF (r_load (hF.at 1 rfl) (ld_all ty_Rat (st.bk 0 rfl) rfl)) rfl rfl rfl rfl fun a hF=>?_
 refine S.callx st hF (r_call Try.func65 en65.1 en65.2 (map1 (hF.at 0 rfl))) (days_is _ qx k n _ (h1.below st.bel) hl hk he hb0 hb1) rfl rfl rfl rfl fun w3 a st hF=>?_
 refine E.opv hF (r_move (hF.at 0 rfl)) rfl rfl rfl rfl fun a hF=>?_
 refine E.opv hF (r_extract (v:= .int .i64 n) (hF.at 0 rfl) rfl) rfl rfl rfl rfl fun a hF=>?_
 refine E.opv hF (r_extract (v:= .bool true) (hF.at 1 rfl) rfl) rfl rfl rfl rfl fun a hF=>?_
 refine E.opv hF (r_assign (hF.at 1 rfl)) rfl rfl rfl rfl fun a hF=>?_
 refine E.opv hF (r_assign (hF.at 1 rfl)) rfl rfl rfl rfl fun a hF=>?_
 refine E.nil ?_
 refine wp_seq ?_
 refine E.seq ?_
 refine E.opv hF (r_move (hF.at 1 rfl)) rfl rfl rfl rfl fun a hF=>?_
 refine E.opset (L':=[(2,.int .i64 n),(10,.int .i64 n),(4,.bool true),(3,.int .i64 n),(9,.bool true),(8,.int .i64 n),(5,.tuple #[.int .i64 n,.bool true]),(7,.tuple #[.int .i64 n,.bool true]),(6,.agg #[.bool b2,.slice ad2 n2 c2,.slice ae2 m2 d2]),(1,.pointer (some ⟨g1,0,none⟩)),(0,.agg #[.bool b2,.slice ad2 n2 c2,.slice ae2 m2 d2])]) hF (r_assign (hF.at 0 rfl)) rfl rfl rfl rfl fun a hF=>?_
 refine E.nil ?_
 refine wp_ret ?_
 have bel:=st.bel
 refine bodyPost_ret (res_tmp Try.results53 (hF.at 0 rfl)) hF.dfr ?_
 exact⟨rfl,bel⟩
theorem omLun_any (n:Int) (w:World) (hn0: -3000000≤n) (hn1:n≤3000000):
 Calls Try.prog 29 #[.int .i64 n] w (ValPost w (.int .i64 (omJ n))):=by
 have hoj:=omJ_in hn0 hn1
 have st:=St.start w
 refine E.enter (nt:=8) (L:=[(0,.int .i64 n)]) Try.func29 rfl rfl rfl (args_cons (i:=0) rfl args_nil) ?_
 intro a hF
 refine wp_seq ?_
 refine E.seq ?_
 refine E.opv hF (r_assign ev_c) rfl rfl rfl rfl fun a hF=>?_
 refine E.nil ?_
 refine wp_seq ?_
 refine E.seq ?_
 refine E.opv hF (r_move (hF.at 1 rfl)) rfl rfl rfl rfl fun a hF=>?_
 refine S.call st hF (r_call Try.func18 en18.1 en18.2 (map1 (hF.at 0 rfl))) (osSun_any n _ (by omega) (by omega)) (fun _ _ h=>h) Rq.cl rfl rfl rfl rfl fun vv2 w1 a st hF=>?_
 obtain⟨b4,ad4,n4,c4,ae4,m4,d4,rfl⟩:=Rq.form (st.f 0 rfl)
 refine S.call st hF (r_call Try.func52 en52.1 en52.2 map0) (omMonth_any _) (fun _ _ h=>h) Rq.cl rfl rfl rfl rfl fun vv6 w5 a st hF=>?_
 obtain⟨b8,ad8,n8,c8,ae8,m8,d8,rfl⟩:=Rq.form (st.f 0 rfl)
 refine S.call st hF (r_call Try.func39 en39.1 en39.2 (map2 (hF.at 1 rfl) (hF.at 0 rfl))) (rDiv_any _ _ (suR n) (mmR) (max 8 2) _ (st.f 1 rfl) (st.f 0 rfl) ((suR_lim (n:=n) (by omega) (by omega)).up _ (by omega)) (mmR_lim.up _ (by omega)) (by omega)) (fun _ _ h=>h) Rq.cl rfl rfl rfl rfl fun vv10 w9 a st hF=>?_
 obtain⟨b12,ad12,n12,c12,ae12,m12,d12,rfl⟩:=Rq.form (st.f 0 rfl)
 refine S.callx st hF (r_call Try.func53 en53.1 en53.2 (map1 (hF.at 0 rfl))) (omflo_any _ _ (8+2) (omJ n) _ (st.f 0 rfl) (rlim_div (suR_lim (n:=n) (by omega) (by omega)) mmR_lim) (by omega) (su_mm n) (by omega) (by omega)) rfl rfl rfl rfl fun w13 a st hF=>?_
 refine E.opset (L':=[(2,.int .i64 (omJ n)),(7,.int .i64 (omJ n)),(6,.agg #[.bool b12,.slice ad12 n12 c12,.slice ae12 m12 d12]),(5,.agg #[.bool b8,.slice ad8 n8 c8,.slice ae8 m8 d8]),(4,.agg #[.bool b4,.slice ad4 n4 c4,.slice ae4 m4 d4]),(3,.int .i64 n),(0,.int .i64 n)]) hF (r_assign (hF.at 0 rfl)) rfl rfl rfl rfl fun a hF=>?_
 refine E.nil ?_
 refine wp_ret ?_
 have bel:=st.bel
 refine bodyPost_ret (res_tmp Try.results29 (hF.at 0 rfl)) hF.dfr ?_
 exact⟨rfl,bel⟩
theorem omSm_any (j:Int) (w:World) (hj0: -4194304≤j) (hj1:j≤4194304):
 Calls Try.prog 32 #[.int .i64 j] w (ValPost w (.int .i64 (omU j))):=by
 have hou:=omU_in2 hj0 hj1
 have st:=St.start w
 refine E.enter (nt:=19) (L:=[(0,.int .i64 j)]) Try.func32 rfl rfl rfl (args_cons (i:=0) rfl args_nil) ?_
 intro a hF
 refine wp_seq ?_
 refine E.seq ?_
 refine E.opv hF (r_assign ev_c) rfl rfl rfl rfl fun a hF=>?_
 refine E.nil ?_
 refine wp_seq ?_
 refine E.seq ?_
 refine S.call st hF (r_call Try.func52 en52.1 en52.2 map0) (omMonth_any _) (fun _ _ h=>h) Rq.cl rfl rfl rfl rfl fun vv2 w1 a st hF=>?_
 obtain⟨b4,ad4,n4,c4,ae4,m4,d4,rfl⟩:=Rq.form (st.f 0 rfl)
 refine E.opv hF (r_move (hF.at 2 rfl)) rfl rfl rfl rfl fun a hF=>?_
 refine S.call st hF (r_call Try.func40 en40.1 en40.2 (map1 (hF.at 0 rfl))) (rWhole_any (j) _ (by omega) (by omega)) (fun _ _ h=>h) Rq.cl rfl rfl rfl rfl fun vv6 w5 a st hF=>?_
 obtain⟨b8,ad8,n8,c8,ae8,m8,d8,rfl⟩:=Rq.form (st.f 0 rfl)
 refine S.call st hF (r_call Try.func51 en51.1 en51.2 (map2 (hF.at 2 rfl) (hF.at 0 rfl))) (rMul_any _ _ (mmR) _ 2 _ (st.f 1 rfl) (st.f 0 rfl) (mmR_lim.up _ (by omega)) ((rlim_int (limz_64 (by omega) (by omega)) (by omega)).up _ (by omega)) (by omega)) (fun _ _ h=>h) Rq.cl rfl rfl rfl rfl fun vv10 w9 a st hF=>?_
 obtain⟨b12,ad12,n12,c12,ae12,m12,d12,rfl⟩:=Rq.form (st.f 0 rfl)
 refine S.new st hF 0 rfl ty_Rat rfl rfl rfl rfl rfl fun g3 w13 a st hF=>?_
 refine E.nil ?_
 refine wp_seq ?_
 refine E.drawn 10 mixed hF [11,12,13,14,15,10,16,17,4,5] [(fun _ v=>v= .agg #[.bool b12,.slice ad12 n12 c12,.slice ae12 m12 d12]),(fun w v=>Rq w v (msR)),(fun w v=>Rq w v (((mmR)*(((j:Int):Rat)))/(msR))),(fun w v=>Wc w v (Rat.ceil (((mmR)*(((j:Int):Rat)))/(msR)))),(fun _ v=>v= .tuple #[.int .i64 (omU j),.bool true]),(fun _ v=>v= .tuple #[.int .i64 (omU j),.bool true]),(fun _ v=>v= .int .i64 (omU j)),(fun _ v=>v= .bool true),(fun _ v=>v= .int .i64 (omU j)),(fun _ v=>v= .bool true)] [] (by decide+kernel) (by decide+kernel) rfl rfl rfl ⟨(Mb.eq _),(fun _ _ _ h hb=>h.below hb),(fun _ _ _ h hb=>h.below hb),(fun _ _ _ h hb=>h.below hb),(Mb.eq _),(Mb.eq _),(Mb.eq _),(Mb.eq _),(Mb.eq _),(Mb.eq _),trivial⟩ trivial ⟨?_,?_,?_,?_,?_,?_,?_,?_,?_,?_,trivial⟩ ?_
 ·intro a' w' hF' hb hd
  exact dv0 (r_load (hF'.at 0 rfl) (ld_all ty_Rat ((st.bk 0 rfl).below hb) rfl)) rfl rfl rfl
 ·intro a' w' hF' hb hd
  exact dc0 (r_call Try.func36 en36.1 en36.2 map0) (osMonth_any _) rfl rfl
 ·intro a' w' hF' hb hd
  have e11:=sHe hd 0 11 rfl rfl rfl rfl
  obtain⟨v12_0,e12,h12_1⟩:=sH hd 1 12 rfl rfl rfl rfl
  exact dc0 (r_call Try.func39 en39.1 en39.2 (map2 e11 e12)) (rDiv_any _ _ _ (msR) (max (2+2) 2) _ ((st.f 0 rfl).below hb) h12_1 ((rlim_mul mmR_lim (rlim_int (limz_64 (by omega) (by omega)) (by omega))).up _ (by omega)) (msR_lim.up _ (by omega)) (by omega)) rfl rfl
 ·intro a' w' hF' hb hd
  obtain⟨v13_0,e13,h13_1⟩:=sH hd 0 13 rfl rfl rfl rfl
  exact dc0 (r_call Try.func57 en57.1 en57.2 (map1 e13)) (cCeil_any _ _ ((2+2)+2) _ h13_1 (rlim_div (rlim_mul mmR_lim (rlim_int (limz_64 (by omega) (by omega)) (by omega))) msR_lim) (by omega)) rfl rfl
 ·intro a' w' hF' hb hd
  obtain⟨v14_0,e14,h14_1⟩:=sH hd 0 14 rfl rfl rfl rfl
  exact dcx0 (r_call Try.func58 en58.1 en58.2 (map1 e14)) (small_is _ (Rat.ceil (((mmR)*(((j:Int):Rat)))/(msR))) (omU j) _ (Wc.wz h14_1) (sunmonth j) (by omega) (by omega)) (fun _=>rfl) rfl rfl
 ·intro a' w' hF' hb hd
  have e15:=sHe hd 0 15 rfl rfl rfl rfl
  exact dv0 (r_move e15) rfl rfl rfl
 ·intro a' w' hF' hb hd
  have e10:=sHe hd 0 10 rfl rfl rfl rfl
  exact dv0 (r_extract (v:= .int .i64 (omU j)) e10 rfl) rfl rfl rfl
 ·intro a' w' hF' hb hd
  have e10:=sHe hd 0 10 rfl rfl rfl rfl
  exact dv0 (r_extract (v:= .bool true) e10 rfl) rfl rfl rfl
 ·intro a' w' hF' hb hd
  have e16:=sHe hd 0 16 rfl rfl rfl rfl
  exact dv0 (r_assign e16) rfl rfl rfl
 ·intro a' w' hF' hb hd
  have e17:=sHe hd 0 17 rfl rfl rfl rfl
  exact dv0 (r_assign e17) rfl rfl rfl
 intro a w14 hF bb hall hne
 replace st:=st.to bb
 have e4:=sSe hall 8 4 rfl rfl
 clear hall hne bb
 replace hF:=hF.add e4
 clear e4
 refine E.nil ?_
 refine wp_seq ?_
 refine E.seq ?_
 refine E.opv hF (r_move (hF.at 0 rfl)) rfl rfl rfl rfl fun a hF=>?_
 refine E.opset (L':=[(2,.int .i64 (omU j)),(18,.int .i64 (omU j)),(4,.int .i64 (omU j)),(3,.pointer (some ⟨g3,0,none⟩)),(9,.agg #[.bool b12,.slice ad12 n12 c12,.slice ae12 m12 d12]),(8,.agg #[.bool b8,.slice ad8 n8 c8,.slice ae8 m8 d8]),(7,.int .i64 j),(6,.agg #[.bool b4,.slice ad4 n4 c4,.slice ae4 m4 d4]),(0,.int .i64 j)]) hF (r_assign (hF.at 0 rfl)) rfl rfl rfl rfl fun a hF=>?_
 refine E.nil ?_
 refine wp_ret ?_
 have bel:=st.bel
 refine bodyPost_ret (res_tmp Try.results32 (hF.at 0 rfl)) hF.dfr ?_
 exact⟨rfl,bel⟩
theorem omLast_any (u:Int) (w:World) (hu0: -1000000≤u) (hu1:u≤1000000):
 Calls Try.prog 95 #[.int .i64 u] w (ValPost w (.int .i64 (omB u))):=by
 have hob:=omB_bd hu0 hu1
 have st:=St.start w
 refine E.enter (nt:=12) (L:=[(0,.int .i64 u)]) Try.func95 rfl rfl rfl (args_cons (i:=0) rfl args_nil) ?_
 intro a hF
 refine wp_seq ?_
 refine E.seq ?_
 refine E.opv hF (r_assign ev_c) rfl rfl rfl rfl fun a hF=>?_
 refine E.nil ?_
 refine wp_seq ?_
 refine E.seq ?_
 refine S.call st hF (r_call Try.func36 en36.1 en36.2 map0) (osMonth_any _) (fun _ _ h=>h) Rq.cl rfl rfl rfl rfl fun vv2 w1 a st hF=>?_
 obtain⟨b4,ad4,n4,c4,ae4,m4,d4,rfl⟩:=Rq.form (st.f 0 rfl)
 refine E.opv hF (r_move (hF.at 2 rfl)) rfl rfl rfl rfl fun a hF=>?_
 refine S.call st hF (r_call Try.func40 en40.1 en40.2 (map1 (hF.at 0 rfl))) (rWhole_any (u) _ (by omega) (by omega)) (fun _ _ h=>h) Rq.cl rfl rfl rfl rfl fun vv6 w5 a st hF=>?_
 obtain⟨b8,ad8,n8,c8,ae8,m8,d8,rfl⟩:=Rq.form (st.f 0 rfl)
 refine S.call st hF (r_call Try.func51 en51.1 en51.2 (map2 (hF.at 2 rfl) (hF.at 0 rfl))) (rMul_any _ _ (msR) _ 2 _ (st.f 1 rfl) (st.f 0 rfl) (msR_lim.up _ (by omega)) ((rlim_int (limz_64 (by omega) (by omega)) (by omega)).up _ (by omega)) (by omega)) (fun _ _ h=>h) Rq.cl rfl rfl rfl rfl fun vv10 w9 a st hF=>?_
 obtain⟨b12,ad12,n12,c12,ae12,m12,d12,rfl⟩:=Rq.form (st.f 0 rfl)
 refine S.new st hF 0 rfl ty_Rat rfl rfl rfl rfl rfl fun g3 w13 a st hF=>?_
 refine E.nil ?_
 refine wp_seq ?_
 refine E.drawn 4 mixed hF [8,9,10,11] [(fun _ v=>v= .agg #[.bool b12,.slice ad12 n12 c12,.slice ae12 m12 d12]),(fun w v=>Rq w v (mmR)),(fun w v=>Rq w v (((msR)*(((u:Int):Rat)))/(mmR))),(fun _ v=>v= .int .i64 (omB u))] [] (by decide+kernel) (by decide+kernel) rfl rfl rfl ⟨(Mb.eq _),(fun _ _ _ h hb=>h.below hb),(fun _ _ _ h hb=>h.below hb),(Mb.eq _),trivial⟩ trivial ⟨?_,?_,?_,?_,trivial⟩ ?_
 ·intro a' w' hF' hb hd
  exact dv0 (r_load (hF'.at 0 rfl) (ld_all ty_Rat ((st.bk 0 rfl).below hb) rfl)) rfl rfl rfl
 ·intro a' w' hF' hb hd
  exact dc0 (r_call Try.func52 en52.1 en52.2 map0) (omMonth_any _) rfl rfl
 ·intro a' w' hF' hb hd
  have e8:=sHe hd 0 8 rfl rfl rfl rfl
  obtain⟨v9_0,e9,h9_1⟩:=sH hd 1 9 rfl rfl rfl rfl
  exact dc0 (r_call Try.func39 en39.1 en39.2 (map2 e8 e9)) (rDiv_any _ _ _ (mmR) (max (2+2) 2) _ ((st.f 0 rfl).below hb) h9_1 ((rlim_mul msR_lim (rlim_int (limz_64 (by omega) (by omega)) (by omega))).up _ (by omega)) (mmR_lim.up _ (by omega)) (by omega)) rfl rfl
 ·intro a' w' hF' hb hd
  obtain⟨v10_0,e10,h10_1⟩:=sH hd 0 10 rfl rfl rfl rfl
  exact dcx0 (r_call Try.func53 en53.1 en53.2 (map1 e10)) (omflo_any _ _ ((2+2)+2) (omB u) _ h10_1 (rlim_div (rlim_mul msR_lim (rlim_int (limz_64 (by omega) (by omega)) (by omega))) mmR_lim) (by omega) (lastU u) (by omega) (by omega)) (fun _=>rfl) rfl rfl
 intro a w14 hF bb hall hne
 replace st:=st.to bb
 have e11:=sSe hall 3 11 rfl rfl
 clear hall hne bb
 replace hF:=hF.add e11
 clear e11
 refine E.opset (L':=[(2,.int .i64 (omB u)),(11,.int .i64 (omB u)),(3,.pointer (some ⟨g3,0,none⟩)),(7,.agg #[.bool b12,.slice ad12 n12 c12,.slice ae12 m12 d12]),(6,.agg #[.bool b8,.slice ad8 n8 c8,.slice ae8 m8 d8]),(5,.int .i64 u),(4,.agg #[.bool b4,.slice ad4 n4 c4,.slice ae4 m4 d4]),(0,.int .i64 u)]) hF (r_assign (hF.at 0 rfl)) rfl rfl rfl rfl fun a hF=>?_
 refine E.nil ?_
 refine wp_ret ?_
 have bel:=st.bel
 refine bodyPost_ret (res_tmp Try.results95 (hF.at 0 rfl)) hF.dfr ?_
 exact⟨rfl,bel⟩
theorem omLof_any (y m:Int) (l:Bool) (d:Int) (w:World) (hy0: -20000≤y) (hy1:y≤20000) (hm0:1≤m) (hm1:m≤12):
 Calls Try.prog 78 #[.agg #[.int .i64 y,.int .i64 m,.bool l,.int .i64 d]] w (ValPost w (.int .i64 (omN (12*y+(m-1)) l))):=by
 have st:=St.start w
 refine E.enter (nt:=19) (L:=[(0,.agg #[.int .i64 y,.int .i64 m,.bool l,.int .i64 d])]) Try.func78 rfl rfl rfl (args_cons (i:=0) rfl args_nil) ?_
 intro a hF
 refine wp_seq ?_
 refine E.seq ?_
 refine S.box st hF (hF.at 0 rfl) rfl rfl fun g1 w1 a st hF=>?_
 refine E.opv hF (r_assign ev_c) rfl rfl rfl rfl fun a hF=>?_
 refine E.nil ?_
 refine wp_seq ?_
 refine E.seq ?_
 refine E.opv hF (r_field (hF.at 1 rfl) (fa_OMD_0 (p:=0) rfl)) rfl rfl rfl rfl fun a hF=>?_
 refine E.opv hF (r_load (hF.at 0 rfl) (ldb_i64 (v:= .int .i64 y) (st.bk 0 rfl) rfl)) rfl rfl rfl rfl fun a hF=>?_
 refine E.opv hF (r_bin ev_c (hF.at 0 rfl) eg_scalar (ia_mul (by omega) (by omega))) rfl rfl rfl rfl fun a hF=>?_
 refine E.opv hF (r_field (hF.at 4 rfl) (fa_OMD_1 (p:=1) rfl)) rfl rfl rfl rfl fun a hF=>?_
 refine E.opv hF (r_load (hF.at 0 rfl) (ldb_int (v:= .int .i64 m) (st.bk 0 rfl) rfl)) rfl rfl rfl rfl fun a hF=>?_
 refine E.opv hF (r_bin (hF.at 0 rfl) ev_c eg_scalar (ia_sub (by omega) (by omega))) rfl rfl rfl rfl fun a hF=>?_
 refine E.opv hF (r_bin (hF.at 3 rfl) (hF.at 0 rfl) eg_scalar (ia_add (by omega) (by omega))) rfl rfl rfl rfl fun a hF=>?_
 refine E.opv hF (r_assign (hF.at 0 rfl)) rfl rfl rfl rfl fun a hF=>?_
 refine E.nil ?_
 refine wp_seq ?_
 refine wp_seq ?_
 refine E.seq ?_
 refine E.opv hF (r_field (hF.at 9 rfl) (fa_OMD_2 (p:=2) rfl)) rfl rfl rfl rfl fun a hF=>?_
 refine E.opv hF (r_load (hF.at 0 rfl) (ldb_bool (v:= .bool l) (st.bk 0 rfl) rfl)) rfl rfl rfl rfl fun a hF=>?_
 refine E.nil ?_
 by_cases hc2:l=true
 ·first
  |(exfalso;omega)
  |(refine wp_cond_true (Eq.trans (hF.at 0 rfl) (congrArg Value.bool hc2)) ?_
    refine wp_seq ?_
    refine E.seq ?_
    refine E.opv hF (r_move (hF.at 2 rfl)) rfl rfl rfl rfl fun a hF=>?_
    refine E.opv hF (r_bin (hF.at 0 rfl) ev_c eg_scalar (ia_sub (by omega) (by omega))) rfl rfl rfl rfl fun a hF=>?_
    refine S.callx st hF (r_call Try.func95 en95.1 en95.2 (map1 (hF.at 0 rfl))) (omLast_any (((12*y)+(m-1))-1) _ (by omega) (by omega)) rfl rfl rfl rfl fun w3 a st hF=>?_
    have hol2:=omB_bd (u:=((12*y)+(m-1))-1) (by omega) (by omega)
    refine E.opv hF (r_bin (hF.at 0 rfl) ev_c eg_scalar (ia_add (by omega) (by omega))) rfl rfl rfl rfl fun a hF=>?_
    refine E.opset (L':=[(2,.int .i64 ((omB (((12*y)+(m-1))-1))+1)),(16,.int .i64 ((omB (((12*y)+(m-1))-1))+1)),(15,.int .i64 (omB (((12*y)+(m-1))-1))),(14,.int .i64 (((12*y)+(m-1))-1)),(13,.int .i64 ((12*y)+(m-1))),(12,.bool l),(11,.pointer (some ⟨g1,2,none⟩)),(3,.int .i64 ((12*y)+(m-1))),(10,.int .i64 ((12*y)+(m-1))),(9,.int .i64 (m-1)),(8,.int .i64 m),(7,.pointer (some ⟨g1,1,none⟩)),(6,.int .i64 (12*y)),(5,.int .i64 y),(4,.pointer (some ⟨g1,0,none⟩)),(1,.pointer (some ⟨g1,0,none⟩)),(0,.agg #[.int .i64 y,.int .i64 m,.bool l,.int .i64 d])]) hF (r_assign (hF.at 0 rfl)) rfl rfl rfl rfl fun a hF=>?_
    refine E.nil ?_
    refine wp_ret ?_
    have bel:=st.bel
    refine bodyPost_ret (res_tmp Try.results78 (hF.at 0 rfl)) hF.dfr ?_
    exact⟨rv_int (omN_t hc2),bel⟩)
 ·first
  |(exfalso;omega)
  |(refine wp_cond_false (Eq.trans (hF.at 0 rfl) (congrArg Value.bool (eq_false_of_ne_true hc2))) ?_
    refine wp_skip ?_
    refine E.norm ?_
    refine wp_seq ?_
    refine E.seq ?_
    refine E.opv hF (r_move (hF.at 2 rfl)) rfl rfl rfl rfl fun a hF=>?_
    refine S.callx st hF (r_call Try.func95 en95.1 en95.2 (map1 (hF.at 0 rfl))) (omLast_any ((12*y)+(m-1)) _ (by omega) (by omega)) rfl rfl rfl rfl fun w4 a st hF=>?_
    have hol3:=omB_bd (u:=(12*y)+(m-1)) (by omega) (by omega)
    refine E.opset (L':=[(2,.int .i64 (omB ((12*y)+(m-1)))),(18,.int .i64 (omB ((12*y)+(m-1)))),(17,.int .i64 ((12*y)+(m-1))),(12,.bool l),(11,.pointer (some ⟨g1,2,none⟩)),(3,.int .i64 ((12*y)+(m-1))),(10,.int .i64 ((12*y)+(m-1))),(9,.int .i64 (m-1)),(8,.int .i64 m),(7,.pointer (some ⟨g1,1,none⟩)),(6,.int .i64 (12*y)),(5,.int .i64 y),(4,.pointer (some ⟨g1,0,none⟩)),(1,.pointer (some ⟨g1,0,none⟩)),(0,.agg #[.int .i64 y,.int .i64 m,.bool l,.int .i64 d])]) hF (r_assign (hF.at 0 rfl)) rfl rfl rfl rfl fun a hF=>?_
    refine E.nil ?_
    refine wp_ret ?_
    have bel:=st.bel
    refine bodyPost_ret (res_tmp Try.results78 (hF.at 0 rfl)) hF.dfr ?_
    exact⟨rv_int (omN_f hc2),bel⟩)
theorem omOf_any (n:Int) (w:World) (hn0: -3000000≤n) (hn1:n≤3000000):
 Calls Try.prog 25 #[.int .i64 n] w (ValPost w (.tuple #[.agg #[.int .i64 (omU (omJ n)/12),.int .i64 (omU (omJ n)%12+1),.bool (decide (omU (omJ n+1)=omU (omJ n))),.int .i64 (omL n-30*omJ n+1)],.int .i64 0])):=by
 have hmd:=om_day n
 have hmj:=omJ_in hn0 hn1
 have hmu:=omU_lim (j:=omJ n) (by omega) (by omega)
 have st:=St.start w
 refine E.enter (nt:=39) (L:=[(0,.int .i64 n)]) Try.func25 rfl rfl rfl (args_cons (i:=0) rfl args_nil) ?_
 intro a hF
 refine wp_seq ?_
 refine E.seq ?_
 refine S.alloc st hF ty_OMD rfl rfl fun g2 w1 a st hF=>?_
 refine E.opv hF (r_assign ev_c) rfl rfl rfl rfl fun a hF=>?_
 refine E.nil ?_
 refine wp_seq ?_
 refine wp_seq ?_
 refine E.seq ?_
 refine E.opv hF (r_move (hF.at 2 rfl)) rfl rfl rfl rfl fun a hF=>?_
 refine S.callx st hF (r_call Try.func15 en15.1 en15.2 (map1 (hF.at 0 rfl))) (osIn_any n _ (by omega) (by omega)) rfl rfl rfl rfl fun w2 a st hF=>?_
 refine E.opv hF (r_un (hF.at 0 rfl) (bn_not _ false rfl)) rfl rfl rfl rfl fun a hF=>?_
 refine E.nil ?_
 refine wp_cond_false (hF.at 0 rfl) ?_
 refine wp_skip ?_
 refine E.norm ?_
 refine wp_seq ?_
 refine E.seq ?_
 refine E.opv hF (r_move (hF.at 5 rfl)) rfl rfl rfl rfl fun a hF=>?_
 refine S.callx st hF (r_call Try.func29 en29.1 en29.2 (map1 (hF.at 0 rfl))) (omLun_any n _ (by omega) (by omega)) rfl rfl rfl rfl fun w3 a st hF=>?_
 have hoj2:=omJ_in (n:=n) (by omega) (by omega)
 refine E.opv hF (r_assign (hF.at 0 rfl)) rfl rfl rfl rfl fun a hF=>?_
 refine E.nil ?_
 refine wp_seq ?_
 refine E.seq ?_
 refine E.opv hF (r_move (hF.at 0 rfl)) rfl rfl rfl rfl fun a hF=>?_
 refine S.callx st hF (r_call Try.func32 en32.1 en32.2 (map1 (hF.at 0 rfl))) (omSm_any (omJ n) _ (by omega) (by omega)) rfl rfl rfl rfl fun w4 a st hF=>?_
 have hou3:=omU_in2 (j:=omJ n) (by omega) (by omega)
 refine E.opv hF (r_assign (hF.at 0 rfl)) rfl rfl rfl rfl fun a hF=>?_
 refine E.nil ?_
 refine wp_seq ?_
 refine E.seq ?_
 refine E.opv hF (r_move (hF.at 11 rfl)) rfl rfl rfl rfl fun a hF=>?_
 refine S.call st hF (r_call Try.func18 en18.1 en18.2 (map1 (hF.at 0 rfl))) (osSun_any n _ (by omega) (by omega)) (fun _ _ h=>h) Rq.cl rfl rfl rfl rfl fun vv6 w5 a st hF=>?_
 obtain⟨b8,ad8,n8,c8,ae8,m8,d8,rfl⟩:=Rq.form (st.f 0 rfl)
 refine S.call st hF (r_call Try.func52 en52.1 en52.2 map0) (omMonth_any _) (fun _ _ h=>h) Rq.cl rfl rfl rfl rfl fun vv10 w9 a st hF=>?_
 obtain⟨b12,ad12,n12,c12,ae12,m12,d12,rfl⟩:=Rq.form (st.f 0 rfl)
 refine S.call st hF (r_call Try.func38 en38.1 en38.2 (map2 (hF.at 1 rfl) (hF.at 0 rfl))) (cMod_any _ _ (suR n) (mmR) 8 2 _ (st.f 1 rfl) (st.f 0 rfl) (suR_lim (n:=n) (by omega) (by omega)) mmR_lim (by omega) (by omega)) (fun _ _ h=>h) Rq.cl rfl rfl rfl rfl fun vv14 w13 a st hF=>?_
 obtain⟨b16,ad16,n16,c16,ae16,m16,d16,rfl⟩:=Rq.form (st.f 0 rfl)
 refine S.new st hF 0 rfl ty_Rat rfl rfl rfl rfl rfl fun g6 w17 a st hF=>?_
 refine E.nil ?_
 refine wp_seq ?_
 refine E.drawn 20 mixed hF [19,20,21,22,23,24,25,26,27,28,29,30,31,32,33,34,35,36,37,38] [(fun _ v=>v= .int .i64 (omU (omJ n))),(fun w v=>Rq w v (((omU (omJ n):Int):Rat)/((12:Int):Rat))),(fun _ v=>v= .int .i64 (omU (omJ n)/12)),(fun _ v=>v= .int .i64 (omU (omJ n))),(fun w v=>Rq w v (((omU (omJ n):Int):Rat))),(fun w v=>Rq w v (((12:Int):Rat))),(fun w v=>Rq w v (rmod (((omU (omJ n):Int):Rat)) (((12:Int):Rat)))),(fun _ v=>v= .int .i64 (omU (omJ n)%12)),(fun _ v=>v= .int .i64 ((omU (omJ n)%12)+1)),(fun _ v=>v= .int .i64 (omJ n)),(fun _ v=>v= .int .i64 ((omJ n)+1)),(fun _ v=>v= .int .i64 (omU ((omJ n)+1))),(fun _ v=>v= .int .i64 (omU (omJ n))),(fun _ v=>v= .bool (decide (omU ((omJ n)+1)=omU (omJ n)))),(fun _ v=>v= .agg #[.bool b16,.slice ad16 n16 c16,.slice ae16 m16 d16]),(fun w v=>Rq w v (ldR)),(fun w v=>Rq w v ((rmod (suR n) (mmR))/(ldR))),(fun _ v=>v= .int .i64 (omL n-30*omJ n)),(fun _ v=>v= .int .i64 ((omL n-30*omJ n)+1)),(fun _ v=>v= .agg #[.int .i64 (omU (omJ n)/12),.int .i64 ((omU (omJ n)%12)+1),.bool (decide (omU ((omJ n)+1)=omU (omJ n))),.int .i64 ((omL n-30*omJ n)+1)])] [] (by decide+kernel) (by decide+kernel) rfl rfl rfl ⟨(Mb.eq _),(fun _ _ _ h hb=>h.below hb),(Mb.eq _),(Mb.eq _),(fun _ _ _ h hb=>h.below hb),(fun _ _ _ h hb=>h.below hb),(fun _ _ _ h hb=>h.below hb),(Mb.eq _),(Mb.eq _),(Mb.eq _),(Mb.eq _),(Mb.eq _),(Mb.eq _),(Mb.eq _),(Mb.eq _),(fun _ _ _ h hb=>h.below hb),(fun _ _ _ h hb=>h.below hb),(Mb.eq _),(Mb.eq _),(Mb.eq _),trivial⟩ trivial ⟨?_,?_,?_,?_,?_,?_,?_,?_,?_,?_,?_,?_,?_,?_,?_,?_,?_,?_,?_,?_,trivial⟩ ?_
 ·intro a' w' hF' hb hd
  exact dv0 (r_move (hF'.at 5 rfl)) rfl rfl rfl
 ·intro a' w' hF' hb hd
  have e19:=sHe hd 0 19 rfl rfl rfl rfl
  exact dc0 (r_call Try.func20 en20.1 en20.2 (map2 e19 ev_c)) (rOf2_any (omU (omJ n)) (12) _ (by omega) (by omega) (by decide) (by decide)) rfl rfl
 ·intro a' w' hF' hb hd
  obtain⟨v20_0,e20,h20_1⟩:=sH hd 0 20 rfl rfl rfl rfl
  exact dcx0 (r_call Try.func53 en53.1 en53.2 (map1 e20)) (omflo_any _ _ 2 (omU (omJ n)/12) _ h20_1 (RLim.up (rlim_mk2 (limz_64 (by omega) (by omega)) (limz_64 (by decide) (by decide))) 2 (by decide)) (by omega) (fl_quo9 (by decide)) (by omega) (by omega)) (fun _=>rfl) rfl rfl
 ·intro a' w' hF' hb hd
  exact dv0 (r_move (hF'.at 5 rfl)) rfl rfl rfl
 ·intro a' w' hF' hb hd
  have e22:=sHe hd 0 22 rfl rfl rfl rfl
  exact dc0 (r_call Try.func40 en40.1 en40.2 (map1 e22)) (rWhole_any (omU (omJ n)) _ (by omega) (by omega)) rfl rfl
 ·intro a' w' hF' hb hd
  exact dc0 (r_call Try.func40 en40.1 en40.2 (map1 ev_c)) (rWhole_any (12) _ (by decide) (by decide)) rfl rfl
 ·intro a' w' hF' hb hd
  obtain⟨v23_0,e23,h23_1⟩:=sH hd 0 23 rfl rfl rfl rfl
  obtain⟨v24_0,e24,h24_1⟩:=sH hd 1 24 rfl rfl rfl rfl
  exact dc0 (r_call Try.func38 en38.1 en38.2 (map2 e23 e24)) (cMod_any _ _ _ _ 2 2 _ h23_1 h24_1 (rlim_int (limz_64 (by omega) (by omega)) (by omega)) (rlim_int (limz_64 (by decide) (by decide)) (by omega)) (by omega) (by omega)) rfl rfl
 ·intro a' w' hF' hb hd
  obtain⟨v25_0,e25,h25_1⟩:=sH hd 0 25 rfl rfl rfl rfl
  exact dcx0 (r_call Try.func53 en53.1 en53.2 (map1 e25)) (omflo_any _ _ (2+2+2+2+3) (omU (omJ n)%12) _ h25_1 (rmod_lim (k:=2) (j:=2) (rlim_int (limz_64 (by omega) (by omega)) (by omega)) (rlim_int (limz_64 (by decide) (by decide)) (by omega))) (by omega) (md12 _) (by omega) (by omega)) (fun _=>rfl) rfl rfl
 ·intro a' w' hF' hb hd
  have e26:=sHe hd 0 26 rfl rfl rfl rfl
  exact dv0 (r_bin e26 ev_c eg_scalar (ia_add (by omega) (by omega))) rfl rfl rfl
 ·intro a' w' hF' hb hd
  exact dv0 (r_move (hF'.at 8 rfl)) rfl rfl rfl
 ·intro a' w' hF' hb hd
  have e28:=sHe hd 0 28 rfl rfl rfl rfl
  exact dv0 (r_bin e28 ev_c eg_scalar (ia_add (by omega) (by omega))) rfl rfl rfl
 ·intro a' w' hF' hb hd
  have e29:=sHe hd 0 29 rfl rfl rfl rfl
  exact dcx0 (r_call Try.func32 en32.1 en32.2 (map1 e29)) (omSm_any ((omJ n)+1) _ (by omega) (by omega)) (fun _=>rfl) rfl rfl
 ·intro a' w' hF' hb hd
  exact dv0 (r_move (hF'.at 5 rfl)) rfl rfl rfl
 ·intro a' w' hF' hb hd
  have e30:=sHe hd 0 30 rfl rfl rfl rfl
  have hou17:=omU_in2 (j:=(omJ n)+1) (by omega) (by omega)
  have e31:=sHe hd 1 31 rfl rfl rfl rfl
  exact dv0 (r_bin e30 e31 eg_scalar (bi_int (ic_eql (c:=decide (omU ((omJ n)+1)=omU (omJ n))) rfl) (by simp))) rfl rfl rfl
 ·intro a' w' hF' hb hd
  exact dv0 (r_load (hF'.at 0 rfl) (ld_all ty_Rat ((st.bk 0 rfl).below hb) rfl)) rfl rfl rfl
 ·intro a' w' hF' hb hd
  exact dc0 (r_call Try.func50 en50.1 en50.2 map0) (omDay_any _) rfl rfl
 ·intro a' w' hF' hb hd
  have e33:=sHe hd 0 33 rfl rfl rfl rfl
  obtain⟨v34_0,e34,h34_1⟩:=sH hd 1 34 rfl rfl rfl rfl
  exact dc0 (r_call Try.func39 en39.1 en39.2 (map2 e33 e34)) (rDiv_any _ _ _ (ldR) (max (8+8+2+2+3) 2) _ ((st.f 0 rfl).below hb) h34_1 ((rmod_lim (k:=8) (j:=2) (suR_lim (n:=n) (by omega) (by omega)) mmR_lim).up _ (by omega)) (ldR_lim.up _ (by omega)) (by omega)) rfl rfl
 ·intro a' w' hF' hb hd
  obtain⟨v35_0,e35,h35_1⟩:=sH hd 0 35 rfl rfl rfl rfl
  exact dcx0 (r_call Try.func53 en53.1 en53.2 (map1 e35)) (omflo_any _ _ ((8+8+2+2+3)+2) (omL n-30*omJ n) _ h35_1 (rlim_div (rmod_lim (k:=8) (j:=2) (suR_lim (n:=n) (by omega) (by omega)) mmR_lim) ldR_lim) (by omega) (om_lunar n) (by omega) (by omega)) (fun _=>rfl) rfl rfl
 ·intro a' w' hF' hb hd
  have e36:=sHe hd 0 36 rfl rfl rfl rfl
  exact dv0 (r_bin e36 ev_c eg_scalar (ia_add (by omega) (by omega))) rfl rfl rfl
 ·intro a' w' hF' hb hd
  have e21:=sHe hd 0 21 rfl rfl rfl rfl
  have e27:=sHe hd 1 27 rfl rfl rfl rfl
  have e32:=sHe hd 2 32 rfl rfl rfl rfl
  have e37:=sHe hd 3 37 rfl rfl rfl rfl
  exact dv0 (r_build (pair4o e21 e27 e32 e37) (bd_OMD_0123 _ _ _ _ _)) rfl rfl rfl
 intro a w18 hF bb hall hne
 replace st:=st.to bb
 have e38:=sSe hall 19 38 rfl rfl
 clear hall hne bb
 replace hF:=hF.add e38
 clear e38
 refine S.stoI st hF 1 rfl (hF.at 16 rfl) (hF.at 0 rfl) ty_OMD rfl rfl rfl fun w19 a st hF=>?_
 refine E.opset (L':=[(3,.int .i64 0),(38,.agg #[.int .i64 (omU (omJ n)/12),.int .i64 ((omU (omJ n)%12)+1),.bool (decide (omU ((omJ n)+1)=omU (omJ n))),.int .i64 ((omL n-30*omJ n)+1)]),(6,.pointer (some ⟨g6,0,none⟩)),(18,.agg #[.bool b16,.slice ad16 n16 c16,.slice ae16 m16 d16]),(17,.agg #[.bool b12,.slice ad12 n12 c12,.slice ae12 m12 d12]),(16,.agg #[.bool b8,.slice ad8 n8 c8,.slice ae8 m8 d8]),(15,.int .i64 n),(5,.int .i64 (omU (omJ n))),(14,.int .i64 (omU (omJ n))),(13,.int .i64 (omJ n)),(4,.int .i64 (omJ n)),(12,.int .i64 (omJ n)),(11,.int .i64 n),(9,.bool false),(8,.bool true),(7,.int .i64 n),(2,.pointer (some ⟨g2,0,none⟩)),(0,.int .i64 n)]) hF (r_assign ev_c) rfl rfl rfl rfl fun a hF=>?_
 refine E.nil ?_
 refine wp_ret ?_
 have bel:=st.bel
 refine bodyPost_ret (res_celltmp Try.results25 (hF.at 16 rfl) (ld_all ty_OMD (st.bk 1 rfl) rfl) (hF.at 0 rfl)) hF.dfr ?_
 exact⟨rfl,bel⟩
theorem omOfX_any (n:Int) (w:World) (hx:¬(-3000000≤n∧n≤3000000)):
 Calls Try.prog 25 #[.int .i64 n] w (ValPost w (.tuple #[.agg #[.int .i64 0,.int .i64 0,.bool false,.int .i64 0],.int .i64 2])):=by
 have st:=St.start w
 refine E.enter (nt:=39) (L:=[(0,.int .i64 n)]) Try.func25 rfl rfl rfl (args_cons (i:=0) rfl args_nil) ?_
 intro a hF
 refine wp_seq ?_
 refine E.seq ?_
 refine S.alloc st hF ty_OMD rfl rfl fun g2 w1 a st hF=>?_
 refine E.opv hF (r_assign ev_c) rfl rfl rfl rfl fun a hF=>?_
 refine E.nil ?_
 refine wp_seq ?_
 refine wp_seq ?_
 refine E.seq ?_
 refine E.opv hF (r_move (hF.at 2 rfl)) rfl rfl rfl rfl fun a hF=>?_
 refine S.callx st hF (r_call Try.func15 en15.1 en15.2 (map1 (hF.at 0 rfl))) (osInX_any n _ (by omega)) rfl rfl rfl rfl fun w2 a st hF=>?_
 refine E.opv hF (r_un (hF.at 0 rfl) (bn_not _ true rfl)) rfl rfl rfl rfl fun a hF=>?_
 refine E.nil ?_
 refine wp_cond_true (hF.at 0 rfl) ?_
 refine wp_seq ?_
 refine E.seq ?_
 refine E.opv hF (r_build (by simp) (bd_OMD_ _)) rfl rfl rfl rfl fun a hF=>?_
 refine S.stoI st hF 0 rfl (hF.at 5 rfl) (hF.at 0 rfl) ty_OMD rfl rfl rfl fun w3 a st hF=>?_
 refine E.opset (L':=[(3,.int .i64 2),(10,.agg #[.int .i64 0,.int .i64 0,.bool false,.int .i64 0]),(9,.bool true),(8,.bool false),(7,.int .i64 n),(2,.pointer (some ⟨g2,0,none⟩)),(0,.int .i64 n)]) hF (r_assign ev_c) rfl rfl rfl rfl fun a hF=>?_
 refine E.nil ?_
 refine wp_ret ?_
 have bel:=st.bel
 refine bodyPost_ret (res_celltmp Try.results25 (hF.at 5 rfl) (ld_all ty_OMD (st.bk 0 rfl) rfl) (hF.at 0 rfl)) hF.dfr ?_
 exact⟨rfl,bel⟩
theorem omFirst_any (y m:Int) (l:Bool) (d:Int) (w:World) (hy0: -20000≤y) (hy1:y≤20000) (hm0:1≤m) (hm1:m≤12) (hd0:1≤d) (hd1:d≤30):
 Calls Try.prog 54 #[.agg #[.int .i64 y,.int .i64 m,.bool l,.int .i64 d]] w (ValPost w (.int .i64 (omX y m l d))):=by
 have hxb:=omX_bd (l:=l) hy0 hy1 hm0 hm1 hd0 hd1
 have hon:=omN_bd (u:=12*y+(m-1)) (l:=l) (by omega) (by omega)
 have st:=St.start w
 refine E.enter (nt:=26) (L:=[(0,.agg #[.int .i64 y,.int .i64 m,.bool l,.int .i64 d])]) Try.func54 rfl rfl rfl (args_cons (i:=0) rfl args_nil) ?_
 intro a hF
 refine wp_seq ?_
 refine E.seq ?_
 refine S.box st hF (hF.at 0 rfl) rfl rfl fun g1 w1 a st hF=>?_
 refine E.opv hF (r_assign ev_c) rfl rfl rfl rfl fun a hF=>?_
 refine E.nil ?_
 refine wp_seq ?_
 refine E.drawn 11 mixed hF [6,7,8,9,10,11,12,13,14,15,3] [(fun w v=>Rq w v (ldR)),(fun _ v=>v= .agg #[.int .i64 y,.int .i64 m,.bool l,.int .i64 d]),(fun _ v=>v= .int .i64 (omN (12*y+(m-1)) l)),(fun _ v=>v= .int .i64 (30*(omN (12*y+(m-1)) l))),(fun _ v=>v= .pointer (some ⟨g1,3,none⟩)),(fun _ v=>v= .int .i64 d),(fun _ v=>v= .int .i64 (d-1)),(fun _ v=>v= .int .i64 ((30*(omN (12*y+(m-1)) l))+(d-1))),(fun w v=>Rq w v ((((30*(omN (12*y+(m-1)) l))+(d-1):Int):Rat))),(fun w v=>Rq w v ((ldR)*((((30*(omN (12*y+(m-1)) l))+(d-1):Int):Rat)))),(fun w v=>∃g,v= .pointer (some ⟨g,0,none⟩)∧w1.heap.size≤g∧Own w g [.bool false,.slice none 0 0,.slice none 0 0])] [10] (by decide+kernel) (by decide+kernel) rfl rfl rfl ⟨(fun _ _ _ h hb=>h.below hb),(Mb.eq _),(Mb.eq _),(Mb.eq _),(Mb.eq _),(Mb.eq _),(Mb.eq _),(Mb.eq _),(fun _ _ _ h hb=>h.below hb),(fun _ _ _ h hb=>h.below hb),(fun _ _ _ ⟨g,e,l,o⟩ hb=>⟨g,e,l,o.below hb⟩),trivial⟩ ⟨fun _ _ ⟨g,e,_,o⟩=>⟨g,e,o.lt⟩,trivial⟩ ⟨?_,?_,?_,?_,?_,?_,?_,?_,?_,?_,?_,trivial⟩ ?_
 ·intro a' w' hF' hb hd
  exact dc0 (r_call Try.func50 en50.1 en50.2 map0) (omDay_any _) rfl rfl
 ·intro a' w' hF' hb hd
  exact dv0 (r_load (hF'.at 1 rfl) (ld_all ty_OMD ((st.bk 0 rfl).below hb) rfl)) rfl rfl rfl
 ·intro a' w' hF' hb hd
  have e7:=sHe hd 0 7 rfl rfl rfl rfl
  exact dcx0 (r_call Try.func78 en78.1 en78.2 (map1 e7)) (omLof_any y m l d _ (by omega) (by omega) (by omega) (by omega)) (fun _=>rfl) rfl rfl
 ·intro a' w' hF' hb hd
  have e8:=sHe hd 0 8 rfl rfl rfl rfl
  have hon1:=omN_bd (u:=12*y+(m-1)) (l:=l) (by omega) (by omega)
  exact dv0 (r_bin ev_c e8 eg_scalar (ia_mul (by omega) (by omega))) rfl rfl rfl
 ·intro a' w' hF' hb hd
  exact dv0 (r_field (hF'.at 1 rfl) (fa_OMD_3 (p:=3) rfl)) rfl rfl rfl
 ·intro a' w' hF' hb hd
  have e10:=sHe hd 0 10 rfl rfl rfl rfl
  exact dv0 (r_load e10 (ldb_int (v:= .int .i64 d) ((st.bk 0 rfl).below hb) rfl)) rfl rfl rfl
 ·intro a' w' hF' hb hd
  have e11:=sHe hd 0 11 rfl rfl rfl rfl
  exact dv0 (r_bin e11 ev_c eg_scalar (ia_sub (by omega) (by omega))) rfl rfl rfl
 ·intro a' w' hF' hb hd
  have e9:=sHe hd 0 9 rfl rfl rfl rfl
  have e12:=sHe hd 1 12 rfl rfl rfl rfl
  exact dv0 (r_bin e9 e12 eg_scalar (ia_add (by omega) (by omega))) rfl rfl rfl
 ·intro a' w' hF' hb hd
  have e13:=sHe hd 0 13 rfl rfl rfl rfl
  exact dc0 (r_call Try.func40 en40.1 en40.2 (map1 e13)) (rWhole_any ((30*(omN (12*y+(m-1)) l))+(d-1)) _ (by omega) (by omega)) rfl rfl
 ·intro a' w' hF' hb hd
  obtain⟨v6_0,e6,h6_1⟩:=sH hd 0 6 rfl rfl rfl rfl
  obtain⟨v14_0,e14,h14_1⟩:=sH hd 1 14 rfl rfl rfl rfl
  exact dc0 (r_call Try.func51 en51.1 en51.2 (map2 e6 e14)) (rMul_any _ _ (ldR) _ 2 _ h6_1 h14_1 (ldR_lim.up _ (by omega)) ((rlim_int (limz_64 (by omega) (by omega)) (by omega)).up _ (by omega)) (by omega)) rfl rfl
 ·intro a' w' hF' hb hd
  exact da0 ty_Rat rfl hb.size rfl
 intro a w2 hF bb hall hne
 have s0:=st
 replace st:=st.to bb
 obtain⟨vv3,e15,hh4⟩:=sS hall 9 15 rfl rfl
 replace st:=st.add hh4 (Rq.cl _)
 clear hh4
 obtain⟨_,e3,g3,rfl,ge3,o3⟩:=sS hall 10 3 rfl rfl
 replace st:=st.push o3.blk (Nat.le_trans s0.bel.size ge3) (s0.ne ge3)
 clear o3
 clear hall hne bb s0
 obtain⟨b5,ad5,n5,c5,ae5,m5,d5,rfl⟩:=Rq.form (st.f 0 rfl)
 replace hF:=hF.add e15
 clear e15
 replace hF:=hF.add e3
 clear e3
 refine S.sto st hF 0 rfl (hF.at 0 rfl) (hF.at 1 rfl) ty_Rat rfl rfl rfl rfl fun w6 a st hF=>?_
 refine E.nil ?_
 refine wp_seq ?_
 refine E.drawn 10 mixed hF [17,18,19,20,21,16,22,23,4,5] [(fun _ v=>v= .agg #[.bool b5,.slice ad5 n5 c5,.slice ae5 m5 d5]),(fun w v=>Rq w v (((1:Int):Rat)/((4:Int):Rat))),(fun w v=>Rq w v (((ldR)*((((30*(omN (12*y+(m-1)) l))+(d-1):Int):Rat)))-(((1:Int):Rat)/((4:Int):Rat)))),(fun w v=>Wc w v (Rat.ceil (((ldR)*((((30*(omN (12*y+(m-1)) l))+(d-1):Int):Rat)))-(((1:Int):Rat)/((4:Int):Rat))))),(fun _ v=>v= .tuple #[.int .i64 (omX y m l d+1132959),.bool true]),(fun _ v=>v= .tuple #[.int .i64 (omX y m l d+1132959),.bool true]),(fun _ v=>v= .int .i64 (omX y m l d+1132959)),(fun _ v=>v= .bool true),(fun _ v=>v= .int .i64 (omX y m l d+1132959)),(fun _ v=>v= .bool true)] [] (by decide+kernel) (by decide+kernel) rfl rfl rfl ⟨(Mb.eq _),(fun _ _ _ h hb=>h.below hb),(fun _ _ _ h hb=>h.below hb),(fun _ _ _ h hb=>h.below hb),(Mb.eq _),(Mb.eq _),(Mb.eq _),(Mb.eq _),(Mb.eq _),(Mb.eq _),trivial⟩ trivial ⟨?_,?_,?_,?_,?_,?_,?_,?_,?_,?_,trivial⟩ ?_
 ·intro a' w' hF' hb hd
  exact dv0 (r_load (hF'.at 0 rfl) (ld_all ty_Rat ((st.bk 0 rfl).below hb) rfl)) rfl rfl rfl
 ·intro a' w' hF' hb hd
  exact dc0 (r_call Try.func20 en20.1 en20.2 (map2 ev_c ev_c)) (rOf2_any (1) (4) _ (by decide) (by decide) (by decide) (by decide)) rfl rfl
 ·intro a' w' hF' hb hd
  have e17:=sHe hd 0 17 rfl rfl rfl rfl
  obtain⟨v18_0,e18,h18_1⟩:=sH hd 1 18 rfl rfl rfl rfl
  exact dc0 (r_call Try.func43 en43.1 en43.2 (map2 e17 e18)) (rSub_any _ _ _ _ (max (2+2) 2) _ ((st.f 0 rfl).below hb) h18_1 ((rlim_mul ldR_lim (rlim_int (limz_64 (by omega) (by omega)) (by omega))).up _ (by omega)) ((RLim.up (rlim_mk2 (limz_64 (by decide) (by decide)) (limz_64 (by decide) (by decide))) 2 (by decide)).up _ (by omega)) (by omega)) rfl rfl
 ·intro a' w' hF' hb hd
  obtain⟨v19_0,e19,h19_1⟩:=sH hd 0 19 rfl rfl rfl rfl
  exact dc0 (r_call Try.func57 en57.1 en57.2 (map1 e19)) (cCeil_any _ _ ((2+2)+2+1) _ h19_1 (rlim_sub (rlim_mul ldR_lim (rlim_int (limz_64 (by omega) (by omega)) (by omega))) (RLim.up (rlim_mk2 (limz_64 (by decide) (by decide)) (limz_64 (by decide) (by decide))) 2 (by decide))) (by omega)) rfl rfl
 ·intro a' w' hF' hb hd
  obtain⟨v20_0,e20,h20_1⟩:=sH hd 0 20 rfl rfl rfl rfl
  exact dcx0 (r_call Try.func58 en58.1 en58.2 (map1 e20)) (small_is _ (Rat.ceil (((ldR)*((((30*(omN (12*y+(m-1)) l))+(d-1):Int):Rat)))-(((1:Int):Rat)/((4:Int):Rat)))) (omX y m l d+1132959) _ (Wc.wz h20_1) (om_ceil (30*omN (12*y+(m-1)) l+(d-1))) (by omega) (by omega)) (fun _=>rfl) rfl rfl
 ·intro a' w' hF' hb hd
  have e21:=sHe hd 0 21 rfl rfl rfl rfl
  exact dv0 (r_move e21) rfl rfl rfl
 ·intro a' w' hF' hb hd
  have e16:=sHe hd 0 16 rfl rfl rfl rfl
  exact dv0 (r_extract (v:= .int .i64 (omX y m l d+1132959)) e16 rfl) rfl rfl rfl
 ·intro a' w' hF' hb hd
  have e16:=sHe hd 0 16 rfl rfl rfl rfl
  exact dv0 (r_extract (v:= .bool true) e16 rfl) rfl rfl rfl
 ·intro a' w' hF' hb hd
  have e22:=sHe hd 0 22 rfl rfl rfl rfl
  exact dv0 (r_assign e22) rfl rfl rfl
 ·intro a' w' hF' hb hd
  have e23:=sHe hd 0 23 rfl rfl rfl rfl
  exact dv0 (r_assign e23) rfl rfl rfl
 intro a w7 hF bb hall hne
 replace st:=st.to bb
 have e4:=sSe hall 8 4 rfl rfl
 clear hall hne bb
 replace hF:=hF.add e4
 clear e4
 refine E.nil ?_
 refine wp_seq ?_
 refine E.seq ?_
 refine E.opv hF (r_move (hF.at 0 rfl)) rfl rfl rfl rfl fun a hF=>?_
 refine E.opv hF (r_bin ev_c (hF.at 0 rfl) eg_scalar (ia_add (by omega) (by omega))) rfl rfl rfl rfl fun a hF=>?_
 refine E.opset (L':=[(2,.int .i64 ((-1132959)+(omX y m l d+1132959))),(25,.int .i64 ((-1132959)+(omX y m l d+1132959))),(24,.int .i64 (omX y m l d+1132959)),(4,.int .i64 (omX y m l d+1132959)),(3,.pointer (some ⟨g3,0,none⟩)),(15,.agg #[.bool b5,.slice ad5 n5 c5,.slice ae5 m5 d5]),(1,.pointer (some ⟨g1,0,none⟩)),(0,.agg #[.int .i64 y,.int .i64 m,.bool l,.int .i64 d])]) hF (r_assign (hF.at 0 rfl)) rfl rfl rfl rfl fun a hF=>?_
 refine E.nil ?_
 refine wp_ret ?_
 have bel:=st.bel
 refine bodyPost_ret (res_tmp Try.results54 (hF.at 0 rfl)) hF.dfr ?_
 refine⟨rv_int ?_,bel⟩
 omega
theorem omFixed_any (y m:Int) (l:Bool) (d:Int) (w:World):
 Calls Try.prog 26 #[.agg #[.int .i64 y,.int .i64 m,.bool l,.int .i64 d]] w (ValPost w (.tuple #[.int .i64 (omM y m l d),.int .i64 (omE y m l d)])):=by
 have st:=St.start w
 refine E.enter (nt:=51) (L:=[(0,.agg #[.int .i64 y,.int .i64 m,.bool l,.int .i64 d])]) Try.func26 rfl rfl rfl (args_cons (i:=0) rfl args_nil) ?_
 intro a hF
 refine wp_seq ?_
 refine E.seq ?_
 refine S.box st hF (hF.at 0 rfl) rfl rfl fun g1 w1 a st hF=>?_
 refine E.opv hF (r_assign ev_c) rfl rfl rfl rfl fun a hF=>?_
 refine E.opv hF (r_assign ev_c) rfl rfl rfl rfl fun a hF=>?_
 refine E.nil ?_
 refine wp_seq ?_
 refine wp_block ?_
 refine wp_seq ?_
 refine E.seq ?_
 refine E.opv hF (r_field (hF.at 2 rfl) (fa_OMD_1 (p:=1) rfl)) rfl rfl rfl rfl fun a hF=>?_
 refine E.opv hF (r_load (hF.at 0 rfl) (ldb_int (v:= .int .i64 m) (st.bk 0 rfl) rfl)) rfl rfl rfl rfl fun a hF=>?_
 by_cases hc2:m<1
 ·first
  |(exfalso;omega)
  |(refine E.opv hF (r_bin (hF.at 0 rfl) ev_c eg_scalar (bi_int (ic_lss (c:=true) (dec_tt hc2)) (by simp))) rfl rfl rfl rfl fun a hF=>?_
    refine E.opv hF (r_move (hF.at 0 rfl)) rfl rfl rfl rfl fun a hF=>?_
    refine E.unwanted hF (wanted_by rfl rfl (hF.at 0 rfl) rfl) rfl rfl rfl fun a hF=>?_
    refine E.unwanted hF (wanted_by rfl rfl (hF.at 1 rfl) rfl) rfl rfl rfl fun a hF=>?_
    refine E.unwanted hF (wanted_by rfl rfl (hF.at 2 rfl) rfl) rfl rfl rfl fun a hF=>?_
    refine E.opv hF (r_pick_t (hF.at 3 rfl) ev_c) rfl rfl rfl rfl fun a hF=>?_
    refine E.opv hF (r_move (hF.at 0 rfl)) rfl rfl rfl rfl fun a hF=>?_
    refine E.unwanted hF (wanted_by rfl rfl (hF.at 0 rfl) rfl) rfl rfl rfl fun a hF=>?_
    refine E.unwanted hF (wanted_by rfl rfl (hF.at 1 rfl) rfl) rfl rfl rfl fun a hF=>?_
    refine E.unwanted hF (wanted_by rfl rfl (hF.at 2 rfl) rfl) rfl rfl rfl fun a hF=>?_
    refine E.opv hF (r_pick_t (hF.at 3 rfl) ev_c) rfl rfl rfl rfl fun a hF=>?_
    refine E.opv hF (r_move (hF.at 0 rfl)) rfl rfl rfl rfl fun a hF=>?_
    refine E.unwanted hF (wanted_by rfl rfl (hF.at 0 rfl) rfl) rfl rfl rfl fun a hF=>?_
    refine E.unwanted hF (wanted_by rfl rfl (hF.at 1 rfl) rfl) rfl rfl rfl fun a hF=>?_
    refine E.unwanted hF (wanted_by rfl rfl (hF.at 2 rfl) rfl) rfl rfl rfl fun a hF=>?_
    refine E.opv hF (r_pick_t (hF.at 3 rfl) ev_c) rfl rfl rfl rfl fun a hF=>?_
    refine E.opv hF (r_assign (hF.at 0 rfl)) rfl rfl rfl rfl fun a hF=>?_
    refine E.nil ?_
    refine wp_cond_true (hF.at 0 rfl) ?_
    refine wp_seq ?_
    refine E.seq ?_
    refine E.opset (L':=[(2,.int .i64 0),(7,.bool true),(25,.bool true),(24,undef),(23,undef),(22,undef),(21,.bool true),(20,.bool true),(19,undef),(18,undef),(17,undef),(16,.bool true),(15,.bool true),(14,undef),(13,undef),(12,undef),(11,.bool true),(10,.bool true),(9,.int .i64 m),(8,.pointer (some ⟨g1,1,none⟩)),(3,.int .i64 0),(1,.pointer (some ⟨g1,0,none⟩)),(0,.agg #[.int .i64 y,.int .i64 m,.bool l,.int .i64 d])]) hF (r_assign ev_c) rfl rfl rfl rfl fun a hF=>?_
    refine E.opset (L':=[(3,.int .i64 4),(2,.int .i64 0),(7,.bool true),(25,.bool true),(24,undef),(23,undef),(22,undef),(21,.bool true),(20,.bool true),(19,undef),(18,undef),(17,undef),(16,.bool true),(15,.bool true),(14,undef),(13,undef),(12,undef),(11,.bool true),(10,.bool true),(9,.int .i64 m),(8,.pointer (some ⟨g1,1,none⟩)),(1,.pointer (some ⟨g1,0,none⟩)),(0,.agg #[.int .i64 y,.int .i64 m,.bool l,.int .i64 d])]) hF (r_assign ev_c) rfl rfl rfl rfl fun a hF=>?_
    refine E.nil ?_
    refine wp_ret ?_
    have bel:=st.bel
    refine bodyPost_ret (res_tmp2 Try.results26 (hF.at 1 rfl) (hF.at 0 rfl)) hF.dfr ?_
    have hfx:=om_4 (y:=y) (m:=m) (d:=d) (l:=l) (by omega)
    exact⟨rv_int2 hfx.1 hfx.2,bel⟩)
 ·first
  |(exfalso;omega)
  |(refine E.opv hF (r_bin (hF.at 0 rfl) ev_c eg_scalar (bi_int (ic_lss (c:=false) (dec_ff hc2)) (by simp))) rfl rfl rfl rfl fun a hF=>?_
    refine E.opv hF (r_move (hF.at 0 rfl)) rfl rfl rfl rfl fun a hF=>?_
    refine E.opvg hF (r_field (hF.at 6 rfl) (fa_OMD_1 (p:=1) rfl)) (wanted_by rfl rfl (hF.at 0 rfl) rfl) rfl rfl rfl fun a hF=>?_
    refine E.opvg hF (r_load (hF.at 0 rfl) (ldb_int (v:= .int .i64 m) (st.bk 0 rfl) rfl)) (wanted_by rfl rfl (hF.at 1 rfl) rfl) rfl rfl rfl fun a hF=>?_
    by_cases hc3:12<m
    ·first
     |(exfalso;omega)
     |(refine E.opvg hF (r_bin (hF.at 0 rfl) ev_c eg_scalar (bi_int (ic_gtr (c:=true) (dec_tt hc3)) (by simp))) (wanted_by rfl rfl (hF.at 2 rfl) rfl) rfl rfl rfl fun a hF=>?_
       refine E.opv hF (r_pick_f (hF.at 3 rfl) (hF.at 0 rfl)) rfl rfl rfl rfl fun a hF=>?_
       refine E.opv hF (r_move (hF.at 0 rfl)) rfl rfl rfl rfl fun a hF=>?_
       refine E.unwanted hF (wanted_by rfl rfl (hF.at 0 rfl) rfl) rfl rfl rfl fun a hF=>?_
       refine E.unwanted hF (wanted_by rfl rfl (hF.at 1 rfl) rfl) rfl rfl rfl fun a hF=>?_
       refine E.unwanted hF (wanted_by rfl rfl (hF.at 2 rfl) rfl) rfl rfl rfl fun a hF=>?_
       refine E.opv hF (r_pick_t (hF.at 3 rfl) ev_c) rfl rfl rfl rfl fun a hF=>?_
       refine E.opv hF (r_move (hF.at 0 rfl)) rfl rfl rfl rfl fun a hF=>?_
       refine E.unwanted hF (wanted_by rfl rfl (hF.at 0 rfl) rfl) rfl rfl rfl fun a hF=>?_
       refine E.unwanted hF (wanted_by rfl rfl (hF.at 1 rfl) rfl) rfl rfl rfl fun a hF=>?_
       refine E.unwanted hF (wanted_by rfl rfl (hF.at 2 rfl) rfl) rfl rfl rfl fun a hF=>?_
       refine E.opv hF (r_pick_t (hF.at 3 rfl) ev_c) rfl rfl rfl rfl fun a hF=>?_
       refine E.opv hF (r_assign (hF.at 0 rfl)) rfl rfl rfl rfl fun a hF=>?_
       refine E.nil ?_
       refine wp_cond_true (hF.at 0 rfl) ?_
       refine wp_seq ?_
       refine E.seq ?_
       refine E.opset (L':=[(2,.int .i64 0),(7,.bool true),(25,.bool true),(24,undef),(23,undef),(22,undef),(21,.bool true),(20,.bool true),(19,undef),(18,undef),(17,undef),(16,.bool true),(15,.bool true),(14,.bool true),(13,.int .i64 m),(12,.pointer (some ⟨g1,1,none⟩)),(11,.bool false),(10,.bool false),(9,.int .i64 m),(8,.pointer (some ⟨g1,1,none⟩)),(3,.int .i64 0),(1,.pointer (some ⟨g1,0,none⟩)),(0,.agg #[.int .i64 y,.int .i64 m,.bool l,.int .i64 d])]) hF (r_assign ev_c) rfl rfl rfl rfl fun a hF=>?_
       refine E.opset (L':=[(3,.int .i64 4),(2,.int .i64 0),(7,.bool true),(25,.bool true),(24,undef),(23,undef),(22,undef),(21,.bool true),(20,.bool true),(19,undef),(18,undef),(17,undef),(16,.bool true),(15,.bool true),(14,.bool true),(13,.int .i64 m),(12,.pointer (some ⟨g1,1,none⟩)),(11,.bool false),(10,.bool false),(9,.int .i64 m),(8,.pointer (some ⟨g1,1,none⟩)),(1,.pointer (some ⟨g1,0,none⟩)),(0,.agg #[.int .i64 y,.int .i64 m,.bool l,.int .i64 d])]) hF (r_assign ev_c) rfl rfl rfl rfl fun a hF=>?_
       refine E.nil ?_
       refine wp_ret ?_
       have bel:=st.bel
       refine bodyPost_ret (res_tmp2 Try.results26 (hF.at 1 rfl) (hF.at 0 rfl)) hF.dfr ?_
       have hfx:=om_4 (y:=y) (m:=m) (d:=d) (l:=l) (by omega)
       exact⟨rv_int2 hfx.1 hfx.2,bel⟩)
    ·first
     |(exfalso;omega)
     |(refine E.opvg hF (r_bin (hF.at 0 rfl) ev_c eg_scalar (bi_int (ic_gtr (c:=false) (dec_ff hc3)) (by simp))) (wanted_by rfl rfl (hF.at 2 rfl) rfl) rfl rfl rfl fun a hF=>?_
       refine E.opv hF (r_pick_f (hF.at 3 rfl) (hF.at 0 rfl)) rfl rfl rfl rfl fun a hF=>?_
       refine E.opv hF (r_move (hF.at 0 rfl)) rfl rfl rfl rfl fun a hF=>?_
       refine E.opvg hF (r_field (hF.at 11 rfl) (fa_OMD_3 (p:=3) rfl)) (wanted_by rfl rfl (hF.at 0 rfl) rfl) rfl rfl rfl fun a hF=>?_
       refine E.opvg hF (r_load (hF.at 0 rfl) (ldb_int (v:= .int .i64 d) (st.bk 0 rfl) rfl)) (wanted_by rfl rfl (hF.at 1 rfl) rfl) rfl rfl rfl fun a hF=>?_
       by_cases hc4:d<1
       ·first
        |(exfalso;omega)
        |(refine E.opvg hF (r_bin (hF.at 0 rfl) ev_c eg_scalar (bi_int (ic_lss (c:=true) (dec_tt hc4)) (by simp))) (wanted_by rfl rfl (hF.at 2 rfl) rfl) rfl rfl rfl fun a hF=>?_
          refine E.opv hF (r_pick_f (hF.at 3 rfl) (hF.at 0 rfl)) rfl rfl rfl rfl fun a hF=>?_
          refine E.opv hF (r_move (hF.at 0 rfl)) rfl rfl rfl rfl fun a hF=>?_
          refine E.unwanted hF (wanted_by rfl rfl (hF.at 0 rfl) rfl) rfl rfl rfl fun a hF=>?_
          refine E.unwanted hF (wanted_by rfl rfl (hF.at 1 rfl) rfl) rfl rfl rfl fun a hF=>?_
          refine E.unwanted hF (wanted_by rfl rfl (hF.at 2 rfl) rfl) rfl rfl rfl fun a hF=>?_
          refine E.opv hF (r_pick_t (hF.at 3 rfl) ev_c) rfl rfl rfl rfl fun a hF=>?_
          refine E.opv hF (r_assign (hF.at 0 rfl)) rfl rfl rfl rfl fun a hF=>?_
          refine E.nil ?_
          refine wp_cond_true (hF.at 0 rfl) ?_
          refine wp_seq ?_
          refine E.seq ?_
          refine E.opset (L':=[(2,.int .i64 0),(7,.bool true),(25,.bool true),(24,undef),(23,undef),(22,undef),(21,.bool true),(20,.bool true),(19,.bool true),(18,.int .i64 d),(17,.pointer (some ⟨g1,3,none⟩)),(16,.bool false),(15,.bool false),(14,.bool false),(13,.int .i64 m),(12,.pointer (some ⟨g1,1,none⟩)),(11,.bool false),(10,.bool false),(9,.int .i64 m),(8,.pointer (some ⟨g1,1,none⟩)),(3,.int .i64 0),(1,.pointer (some ⟨g1,0,none⟩)),(0,.agg #[.int .i64 y,.int .i64 m,.bool l,.int .i64 d])]) hF (r_assign ev_c) rfl rfl rfl rfl fun a hF=>?_
          refine E.opset (L':=[(3,.int .i64 4),(2,.int .i64 0),(7,.bool true),(25,.bool true),(24,undef),(23,undef),(22,undef),(21,.bool true),(20,.bool true),(19,.bool true),(18,.int .i64 d),(17,.pointer (some ⟨g1,3,none⟩)),(16,.bool false),(15,.bool false),(14,.bool false),(13,.int .i64 m),(12,.pointer (some ⟨g1,1,none⟩)),(11,.bool false),(10,.bool false),(9,.int .i64 m),(8,.pointer (some ⟨g1,1,none⟩)),(1,.pointer (some ⟨g1,0,none⟩)),(0,.agg #[.int .i64 y,.int .i64 m,.bool l,.int .i64 d])]) hF (r_assign ev_c) rfl rfl rfl rfl fun a hF=>?_
          refine E.nil ?_
          refine wp_ret ?_
          have bel:=st.bel
          refine bodyPost_ret (res_tmp2 Try.results26 (hF.at 1 rfl) (hF.at 0 rfl)) hF.dfr ?_
          have hfx:=om_4 (y:=y) (m:=m) (d:=d) (l:=l) (by omega)
          exact⟨rv_int2 hfx.1 hfx.2,bel⟩)
       ·first
        |(exfalso;omega)
        |(refine E.opvg hF (r_bin (hF.at 0 rfl) ev_c eg_scalar (bi_int (ic_lss (c:=false) (dec_ff hc4)) (by simp))) (wanted_by rfl rfl (hF.at 2 rfl) rfl) rfl rfl rfl fun a hF=>?_
          refine E.opv hF (r_pick_f (hF.at 3 rfl) (hF.at 0 rfl)) rfl rfl rfl rfl fun a hF=>?_
          refine E.opv hF (r_move (hF.at 0 rfl)) rfl rfl rfl rfl fun a hF=>?_
          refine E.opvg hF (r_field (hF.at 16 rfl) (fa_OMD_3 (p:=3) rfl)) (wanted_by rfl rfl (hF.at 0 rfl) rfl) rfl rfl rfl fun a hF=>?_
          refine E.opvg hF (r_load (hF.at 0 rfl) (ldb_int (v:= .int .i64 d) (st.bk 0 rfl) rfl)) (wanted_by rfl rfl (hF.at 1 rfl) rfl) rfl rfl rfl fun a hF=>?_
          by_cases hc5:30<d
          ·first
           |(exfalso;omega)
           |(refine E.opvg hF (r_bin (hF.at 0 rfl) ev_c eg_scalar (bi_int (ic_gtr (c:=true) (dec_tt hc5)) (by simp))) (wanted_by rfl rfl (hF.at 2 rfl) rfl) rfl rfl rfl fun a hF=>?_
             refine E.opv hF (r_pick_f (hF.at 3 rfl) (hF.at 0 rfl)) rfl rfl rfl rfl fun a hF=>?_
             refine E.opv hF (r_assign (hF.at 0 rfl)) rfl rfl rfl rfl fun a hF=>?_
             refine E.nil ?_
             refine wp_cond_true (hF.at 0 rfl) ?_
             refine wp_seq ?_
             refine E.seq ?_
             refine E.opset (L':=[(2,.int .i64 0),(7,.bool true),(25,.bool true),(24,.bool true),(23,.int .i64 d),(22,.pointer (some ⟨g1,3,none⟩)),(21,.bool false),(20,.bool false),(19,.bool false),(18,.int .i64 d),(17,.pointer (some ⟨g1,3,none⟩)),(16,.bool false),(15,.bool false),(14,.bool false),(13,.int .i64 m),(12,.pointer (some ⟨g1,1,none⟩)),(11,.bool false),(10,.bool false),(9,.int .i64 m),(8,.pointer (some ⟨g1,1,none⟩)),(3,.int .i64 0),(1,.pointer (some ⟨g1,0,none⟩)),(0,.agg #[.int .i64 y,.int .i64 m,.bool l,.int .i64 d])]) hF (r_assign ev_c) rfl rfl rfl rfl fun a hF=>?_
             refine E.opset (L':=[(3,.int .i64 4),(2,.int .i64 0),(7,.bool true),(25,.bool true),(24,.bool true),(23,.int .i64 d),(22,.pointer (some ⟨g1,3,none⟩)),(21,.bool false),(20,.bool false),(19,.bool false),(18,.int .i64 d),(17,.pointer (some ⟨g1,3,none⟩)),(16,.bool false),(15,.bool false),(14,.bool false),(13,.int .i64 m),(12,.pointer (some ⟨g1,1,none⟩)),(11,.bool false),(10,.bool false),(9,.int .i64 m),(8,.pointer (some ⟨g1,1,none⟩)),(1,.pointer (some ⟨g1,0,none⟩)),(0,.agg #[.int .i64 y,.int .i64 m,.bool l,.int .i64 d])]) hF (r_assign ev_c) rfl rfl rfl rfl fun a hF=>?_
             refine E.nil ?_
             refine wp_ret ?_
             have bel:=st.bel
             refine bodyPost_ret (res_tmp2 Try.results26 (hF.at 1 rfl) (hF.at 0 rfl)) hF.dfr ?_
             have hfx:=om_4 (y:=y) (m:=m) (d:=d) (l:=l) (by omega)
             exact⟨rv_int2 hfx.1 hfx.2,bel⟩)
          ·first
           |(exfalso;omega)
           |(refine E.opvg hF (r_bin (hF.at 0 rfl) ev_c eg_scalar (bi_int (ic_gtr (c:=false) (dec_ff hc5)) (by simp))) (wanted_by rfl rfl (hF.at 2 rfl) rfl) rfl rfl rfl fun a hF=>?_
             refine E.opv hF (r_pick_f (hF.at 3 rfl) (hF.at 0 rfl)) rfl rfl rfl rfl fun a hF=>?_
             refine E.opv hF (r_assign (hF.at 0 rfl)) rfl rfl rfl rfl fun a hF=>?_
             refine E.nil ?_
             refine wp_cond_false (hF.at 0 rfl) ?_
             refine wp_seq ?_
             refine E.seq ?_
             refine E.opv hF (r_field (hF.at 21 rfl) (fa_OMD_0 (p:=0) rfl)) rfl rfl rfl rfl fun a hF=>?_
             refine E.opv hF (r_load (hF.at 0 rfl) (ldb_i64 (v:= .int .i64 y) (st.bk 0 rfl) rfl)) rfl rfl rfl rfl fun a hF=>?_
             by_cases hc6:y<(-20000)
             ·first
              |(exfalso;omega)
              |(refine E.opv hF (r_bin (hF.at 0 rfl) ev_c eg_scalar (bi_int (ic_lss (c:=true) (dec_tt hc6)) (by simp))) rfl rfl rfl rfl fun a hF=>?_
                refine E.opv hF (r_move (hF.at 0 rfl)) rfl rfl rfl rfl fun a hF=>?_
                refine E.unwanted hF (wanted_by rfl rfl (hF.at 0 rfl) rfl) rfl rfl rfl fun a hF=>?_
                refine E.unwanted hF (wanted_by rfl rfl (hF.at 1 rfl) rfl) rfl rfl rfl fun a hF=>?_
                refine E.unwanted hF (wanted_by rfl rfl (hF.at 2 rfl) rfl) rfl rfl rfl fun a hF=>?_
                refine E.opv hF (r_pick_t (hF.at 3 rfl) ev_c) rfl rfl rfl rfl fun a hF=>?_
                refine E.opv hF (r_assign (hF.at 0 rfl)) rfl rfl rfl rfl fun a hF=>?_
                refine E.nil ?_
                refine wp_cond_true (hF.at 0 rfl) ?_
                refine wp_seq ?_
                refine E.seq ?_
                refine E.opset (L':=[(2,.int .i64 0),(26,.bool true),(34,.bool true),(33,undef),(32,undef),(31,undef),(30,.bool true),(29,.bool true),(28,.int .i64 y),(27,.pointer (some ⟨g1,0,none⟩)),(7,.bool false),(25,.bool false),(24,.bool false),(23,.int .i64 d),(22,.pointer (some ⟨g1,3,none⟩)),(21,.bool false),(20,.bool false),(19,.bool false),(18,.int .i64 d),(17,.pointer (some ⟨g1,3,none⟩)),(16,.bool false),(15,.bool false),(14,.bool false),(13,.int .i64 m),(12,.pointer (some ⟨g1,1,none⟩)),(11,.bool false),(10,.bool false),(9,.int .i64 m),(8,.pointer (some ⟨g1,1,none⟩)),(3,.int .i64 0),(1,.pointer (some ⟨g1,0,none⟩)),(0,.agg #[.int .i64 y,.int .i64 m,.bool l,.int .i64 d])]) hF (r_assign ev_c) rfl rfl rfl rfl fun a hF=>?_
                refine E.opset (L':=[(3,.int .i64 2),(2,.int .i64 0),(26,.bool true),(34,.bool true),(33,undef),(32,undef),(31,undef),(30,.bool true),(29,.bool true),(28,.int .i64 y),(27,.pointer (some ⟨g1,0,none⟩)),(7,.bool false),(25,.bool false),(24,.bool false),(23,.int .i64 d),(22,.pointer (some ⟨g1,3,none⟩)),(21,.bool false),(20,.bool false),(19,.bool false),(18,.int .i64 d),(17,.pointer (some ⟨g1,3,none⟩)),(16,.bool false),(15,.bool false),(14,.bool false),(13,.int .i64 m),(12,.pointer (some ⟨g1,1,none⟩)),(11,.bool false),(10,.bool false),(9,.int .i64 m),(8,.pointer (some ⟨g1,1,none⟩)),(1,.pointer (some ⟨g1,0,none⟩)),(0,.agg #[.int .i64 y,.int .i64 m,.bool l,.int .i64 d])]) hF (r_assign ev_c) rfl rfl rfl rfl fun a hF=>?_
                refine E.nil ?_
                refine wp_ret ?_
                have bel:=st.bel
                refine bodyPost_ret (res_tmp2 Try.results26 (hF.at 1 rfl) (hF.at 0 rfl)) hF.dfr ?_
                have hfx:=om_2 (y:=y) (m:=m) (d:=d) (l:=l) (by omega) (by omega)
                exact⟨rv_int2 hfx.1 hfx.2,bel⟩)
             ·first
              |(exfalso;omega)
              |(refine E.opv hF (r_bin (hF.at 0 rfl) ev_c eg_scalar (bi_int (ic_lss (c:=false) (dec_ff hc6)) (by simp))) rfl rfl rfl rfl fun a hF=>?_
                refine E.opv hF (r_move (hF.at 0 rfl)) rfl rfl rfl rfl fun a hF=>?_
                refine E.opvg hF (r_field (hF.at 25 rfl) (fa_OMD_0 (p:=0) rfl)) (wanted_by rfl rfl (hF.at 0 rfl) rfl) rfl rfl rfl fun a hF=>?_
                refine E.opvg hF (r_load (hF.at 0 rfl) (ldb_i64 (v:= .int .i64 y) (st.bk 0 rfl) rfl)) (wanted_by rfl rfl (hF.at 1 rfl) rfl) rfl rfl rfl fun a hF=>?_
                by_cases hc7:20000<y
                ·first
                 |(exfalso;omega)
                 |(refine E.opvg hF (r_bin (hF.at 0 rfl) ev_c eg_scalar (bi_int (ic_gtr (c:=true) (dec_tt hc7)) (by simp))) (wanted_by rfl rfl (hF.at 2 rfl) rfl) rfl rfl rfl fun a hF=>?_
                   refine E.opv hF (r_pick_f (hF.at 3 rfl) (hF.at 0 rfl)) rfl rfl rfl rfl fun a hF=>?_
                   refine E.opv hF (r_assign (hF.at 0 rfl)) rfl rfl rfl rfl fun a hF=>?_
                   refine E.nil ?_
                   refine wp_cond_true (hF.at 0 rfl) ?_
                   refine wp_seq ?_
                   refine E.seq ?_
                   refine E.opset (L':=[(2,.int .i64 0),(26,.bool true),(34,.bool true),(33,.bool true),(32,.int .i64 y),(31,.pointer (some ⟨g1,0,none⟩)),(30,.bool false),(29,.bool false),(28,.int .i64 y),(27,.pointer (some ⟨g1,0,none⟩)),(7,.bool false),(25,.bool false),(24,.bool false),(23,.int .i64 d),(22,.pointer (some ⟨g1,3,none⟩)),(21,.bool false),(20,.bool false),(19,.bool false),(18,.int .i64 d),(17,.pointer (some ⟨g1,3,none⟩)),(16,.bool false),(15,.bool false),(14,.bool false),(13,.int .i64 m),(12,.pointer (some ⟨g1,1,none⟩)),(11,.bool false),(10,.bool false),(9,.int .i64 m),(8,.pointer (some ⟨g1,1,none⟩)),(3,.int .i64 0),(1,.pointer (some ⟨g1,0,none⟩)),(0,.agg #[.int .i64 y,.int .i64 m,.bool l,.int .i64 d])]) hF (r_assign ev_c) rfl rfl rfl rfl fun a hF=>?_
                   refine E.opset (L':=[(3,.int .i64 2),(2,.int .i64 0),(26,.bool true),(34,.bool true),(33,.bool true),(32,.int .i64 y),(31,.pointer (some ⟨g1,0,none⟩)),(30,.bool false),(29,.bool false),(28,.int .i64 y),(27,.pointer (some ⟨g1,0,none⟩)),(7,.bool false),(25,.bool false),(24,.bool false),(23,.int .i64 d),(22,.pointer (some ⟨g1,3,none⟩)),(21,.bool false),(20,.bool false),(19,.bool false),(18,.int .i64 d),(17,.pointer (some ⟨g1,3,none⟩)),(16,.bool false),(15,.bool false),(14,.bool false),(13,.int .i64 m),(12,.pointer (some ⟨g1,1,none⟩)),(11,.bool false),(10,.bool false),(9,.int .i64 m),(8,.pointer (some ⟨g1,1,none⟩)),(1,.pointer (some ⟨g1,0,none⟩)),(0,.agg #[.int .i64 y,.int .i64 m,.bool l,.int .i64 d])]) hF (r_assign ev_c) rfl rfl rfl rfl fun a hF=>?_
                   refine E.nil ?_
                   refine wp_ret ?_
                   have bel:=st.bel
                   refine bodyPost_ret (res_tmp2 Try.results26 (hF.at 1 rfl) (hF.at 0 rfl)) hF.dfr ?_
                   have hfx:=om_2 (y:=y) (m:=m) (d:=d) (l:=l) (by omega) (by omega)
                   exact⟨rv_int2 hfx.1 hfx.2,bel⟩)
                ·first
                 |(exfalso;omega)
                 |(refine E.opvg hF (r_bin (hF.at 0 rfl) ev_c eg_scalar (bi_int (ic_gtr (c:=false) (dec_ff hc7)) (by simp))) (wanted_by rfl rfl (hF.at 2 rfl) rfl) rfl rfl rfl fun a hF=>?_
                   refine E.opv hF (r_pick_f (hF.at 3 rfl) (hF.at 0 rfl)) rfl rfl rfl rfl fun a hF=>?_
                   refine E.opv hF (r_assign (hF.at 0 rfl)) rfl rfl rfl rfl fun a hF=>?_
                   refine E.nil ?_
                   refine wp_cond_false (hF.at 0 rfl) ?_
                   refine wp_skip ?_
                   refine E.blk ?_
                   refine E.norm ?_
                   refine wp_seq ?_
                   refine E.seq ?_
                   refine E.opv hF (r_load (hF.at 30 rfl) (ld_all ty_OMD (st.bk 0 rfl) rfl)) rfl rfl rfl rfl fun a hF=>?_
                   refine S.callx st hF (r_call Try.func54 en54.1 en54.2 (map1 (hF.at 0 rfl))) (omFirst_any y m l d _ (by omega) (by omega) (by omega) (by omega) (by omega) (by omega)) rfl rfl rfl rfl fun w8 a st hF=>?_
                   have hxb:=omX_bd (y:=y) (m:=m) (d:=d) (l:=l) (by omega) (by omega) (by omega) (by omega) (by omega) (by omega)
                   refine E.opv hF (r_assign (hF.at 0 rfl)) rfl rfl rfl rfl fun a hF=>?_
                   obtain⟨n,hn⟩:∃n:Int,n=omX y m l d:=⟨_,rfl⟩
                   rw[←hn] at hF hxb
                   refine E.nil ?_
                   refine wp_seq ?_
                   refine E.seq ?_
                   refine E.opv hF (r_move (hF.at 0 rfl)) rfl rfl rfl rfl fun a hF=>?_
                   by_cases hc9: -3000000≤n∧n≤3000000
                   ·first
                    |(exfalso;omega)
                    |(refine S.callx st hF (r_call Try.func25 en25.1 en25.2 (map1 (hF.at 0 rfl))) (omOf_any n _ (by omega) (by omega)) rfl rfl rfl rfl fun w10 a st hF=>?_
                      have hmd9:=om_day (n)
                      have hmj9:=omJ_in (n:=n) (by omega) (by omega)
                      have hmu9:=omU_lim (j:=omJ n) (by omega) (by omega)
                      refine E.opv hF (r_move (hF.at 0 rfl)) rfl rfl rfl rfl fun a hF=>?_
                      refine E.opv hF (r_extract (v:= .agg #[.int .i64 (omU (omJ n)/12),.int .i64 (omU (omJ n)%12+1),.bool (decide (omU (omJ n+1)=omU (omJ n))),.int .i64 (omL n-30*omJ n+1)]) (hF.at 0 rfl) rfl) rfl rfl rfl rfl fun a hF=>?_
                      refine E.opv hF (r_extract (v:= .int .i64 0) (hF.at 1 rfl) rfl) rfl rfl rfl rfl fun a hF=>?_
                      refine S.new st hF 1 rfl ty_OMD rfl rfl rfl rfl rfl fun g5 w11 a st hF=>?_
                      refine E.opv hF (r_assign (hF.at 1 rfl)) rfl rfl rfl rfl fun a hF=>?_
                      refine E.nil ?_
                      refine wp_seq ?_
                      refine wp_block ?_
                      refine wp_seq ?_
                      refine E.seq ?_
                      refine E.opv hF (r_move (hF.at 0 rfl)) rfl rfl rfl rfl fun a hF=>?_
                      refine E.opv hF (r_bin (hF.at 0 rfl) ev_c eg_scalar (bi_int (ic_neq (c:=false) (by decide)) (by simp))) rfl rfl rfl rfl fun a hF=>?_
                      refine E.opv hF (r_assign (hF.at 0 rfl)) rfl rfl rfl rfl fun a hF=>?_
                      refine E.nil ?_
                      refine wp_cond_false (hF.at 0 rfl) ?_
                      refine wp_seq ?_
                      refine E.seq ?_
                      refine E.opv hF (r_load (hF.at 4 rfl) (ld_all ty_OMD (st.bk 0 rfl) rfl)) rfl rfl rfl rfl fun a hF=>?_
                      refine E.opv hF (r_load (hF.at 44 rfl) (ld_all ty_OMD (st.bk 1 rfl) rfl)) rfl rfl rfl rfl fun a hF=>?_
                      by_cases hc12:(omU (omJ n)/12)=y∧(omU (omJ n)%12+1)=m∧(decide (omU (omJ n+1)=omU (omJ n)))=l∧(omL n-30*omJ n+1)=d
                      ·first
                       |(exfalso;omega)
                       |(refine E.opv hF (r_bin (hF.at 1 rfl) (hF.at 0 rfl) eg_OMD (ens_OMD (dec_tt hc12))) rfl rfl rfl rfl fun a hF=>?_
                         refine E.opv hF (r_assign (hF.at 0 rfl)) rfl rfl rfl rfl fun a hF=>?_
                         refine E.nil ?_
                         refine wp_cond_false (hF.at 0 rfl) ?_
                         refine wp_skip ?_
                         refine E.blk ?_
                         refine E.norm ?_
                         refine wp_seq ?_
                         refine E.seq ?_
                         refine E.opv hF (r_move (hF.at 14 rfl)) rfl rfl rfl rfl fun a hF=>?_
                         refine E.opset (L':=[(2,.int .i64 n),(50,.int .i64 n),(46,.bool false),(49,.bool false),(48,.agg #[.int .i64 y,.int .i64 m,.bool l,.int .i64 d]),(47,.agg #[.int .i64 (omU (omJ n)/12),.int .i64 (omU (omJ n)%12+1),.bool (decide (omU (omJ n+1)=omU (omJ n))),.int .i64 (omL n-30*omJ n+1)]),(42,.bool false),(44,.bool false),(43,.int .i64 0),(6,.int .i64 0),(5,.pointer (some ⟨g5,0,none⟩)),(41,.int .i64 0),(40,.agg #[.int .i64 (omU (omJ n)/12),.int .i64 (omU (omJ n)%12+1),.bool (decide (omU (omJ n+1)=omU (omJ n))),.int .i64 (omL n-30*omJ n+1)]),(37,.tuple #[.agg #[.int .i64 (omU (omJ n)/12),.int .i64 (omU (omJ n)%12+1),.bool (decide (omU (omJ n+1)=omU (omJ n))),.int .i64 (omL n-30*omJ n+1)],.int .i64 0]),(39,.tuple #[.agg #[.int .i64 (omU (omJ n)/12),.int .i64 (omU (omJ n)%12+1),.bool (decide (omU (omJ n+1)=omU (omJ n))),.int .i64 (omL n-30*omJ n+1)],.int .i64 0]),(38,.int .i64 n),(4,.int .i64 n),(36,.int .i64 n),(35,.agg #[.int .i64 y,.int .i64 m,.bool l,.int .i64 d]),(26,.bool false),(34,.bool false),(33,.bool false),(32,.int .i64 y),(31,.pointer (some ⟨g1,0,none⟩)),(30,.bool false),(29,.bool false),(28,.int .i64 y),(27,.pointer (some ⟨g1,0,none⟩)),(7,.bool false),(25,.bool false),(24,.bool false),(23,.int .i64 d),(22,.pointer (some ⟨g1,3,none⟩)),(21,.bool false),(20,.bool false),(19,.bool false),(18,.int .i64 d),(17,.pointer (some ⟨g1,3,none⟩)),(16,.bool false),(15,.bool false),(14,.bool false),(13,.int .i64 m),(12,.pointer (some ⟨g1,1,none⟩)),(11,.bool false),(10,.bool false),(9,.int .i64 m),(8,.pointer (some ⟨g1,1,none⟩)),(3,.int .i64 0),(1,.pointer (some ⟨g1,0,none⟩)),(0,.agg #[.int .i64 y,.int .i64 m,.bool l,.int .i64 d])]) hF (r_assign (hF.at 0 rfl)) rfl rfl rfl rfl fun a hF=>?_
                         refine E.opset (L':=[(3,.int .i64 0),(2,.int .i64 n),(50,.int .i64 n),(46,.bool false),(49,.bool false),(48,.agg #[.int .i64 y,.int .i64 m,.bool l,.int .i64 d]),(47,.agg #[.int .i64 (omU (omJ n)/12),.int .i64 (omU (omJ n)%12+1),.bool (decide (omU (omJ n+1)=omU (omJ n))),.int .i64 (omL n-30*omJ n+1)]),(42,.bool false),(44,.bool false),(43,.int .i64 0),(6,.int .i64 0),(5,.pointer (some ⟨g5,0,none⟩)),(41,.int .i64 0),(40,.agg #[.int .i64 (omU (omJ n)/12),.int .i64 (omU (omJ n)%12+1),.bool (decide (omU (omJ n+1)=omU (omJ n))),.int .i64 (omL n-30*omJ n+1)]),(37,.tuple #[.agg #[.int .i64 (omU (omJ n)/12),.int .i64 (omU (omJ n)%12+1),.bool (decide (omU (omJ n+1)=omU (omJ n))),.int .i64 (omL n-30*omJ n+1)],.int .i64 0]),(39,.tuple #[.agg #[.int .i64 (omU (omJ n)/12),.int .i64 (omU (omJ n)%12+1),.bool (decide (omU (omJ n+1)=omU (omJ n))),.int .i64 (omL n-30*omJ n+1)],.int .i64 0]),(38,.int .i64 n),(4,.int .i64 n),(36,.int .i64 n),(35,.agg #[.int .i64 y,.int .i64 m,.bool l,.int .i64 d]),(26,.bool false),(34,.bool false),(33,.bool false),(32,.int .i64 y),(31,.pointer (some ⟨g1,0,none⟩)),(30,.bool false),(29,.bool false),(28,.int .i64 y),(27,.pointer (some ⟨g1,0,none⟩)),(7,.bool false),(25,.bool false),(24,.bool false),(23,.int .i64 d),(22,.pointer (some ⟨g1,3,none⟩)),(21,.bool false),(20,.bool false),(19,.bool false),(18,.int .i64 d),(17,.pointer (some ⟨g1,3,none⟩)),(16,.bool false),(15,.bool false),(14,.bool false),(13,.int .i64 m),(12,.pointer (some ⟨g1,1,none⟩)),(11,.bool false),(10,.bool false),(9,.int .i64 m),(8,.pointer (some ⟨g1,1,none⟩)),(1,.pointer (some ⟨g1,0,none⟩)),(0,.agg #[.int .i64 y,.int .i64 m,.bool l,.int .i64 d])]) hF (r_assign ev_c) rfl rfl rfl rfl fun a hF=>?_
                         refine E.nil ?_
                         refine wp_ret ?_
                         have bel:=st.bel
                         refine bodyPost_ret (res_tmp2 Try.results26 (hF.at 1 rfl) (hF.at 0 rfl)) hF.dfr ?_
                         have hfx:=om_0 hn (by omega) (by omega) (by omega) hc12
                         exact⟨rv_int2 hfx.1 hfx.2,bel⟩)
                      ·first
                       |(exfalso;omega)
                       |(refine E.opv hF (r_bin (hF.at 1 rfl) (hF.at 0 rfl) eg_OMD (ens_OMD (dec_ff hc12))) rfl rfl rfl rfl fun a hF=>?_
                         refine E.opv hF (r_assign (hF.at 0 rfl)) rfl rfl rfl rfl fun a hF=>?_
                         refine E.nil ?_
                         refine wp_cond_true (hF.at 0 rfl) ?_
                         refine wp_seq ?_
                         refine E.seq ?_
                         refine E.opset (L':=[(2,.int .i64 0),(46,.bool true),(49,.bool true),(48,.agg #[.int .i64 y,.int .i64 m,.bool l,.int .i64 d]),(47,.agg #[.int .i64 (omU (omJ n)/12),.int .i64 (omU (omJ n)%12+1),.bool (decide (omU (omJ n+1)=omU (omJ n))),.int .i64 (omL n-30*omJ n+1)]),(42,.bool false),(44,.bool false),(43,.int .i64 0),(6,.int .i64 0),(5,.pointer (some ⟨g5,0,none⟩)),(41,.int .i64 0),(40,.agg #[.int .i64 (omU (omJ n)/12),.int .i64 (omU (omJ n)%12+1),.bool (decide (omU (omJ n+1)=omU (omJ n))),.int .i64 (omL n-30*omJ n+1)]),(37,.tuple #[.agg #[.int .i64 (omU (omJ n)/12),.int .i64 (omU (omJ n)%12+1),.bool (decide (omU (omJ n+1)=omU (omJ n))),.int .i64 (omL n-30*omJ n+1)],.int .i64 0]),(39,.tuple #[.agg #[.int .i64 (omU (omJ n)/12),.int .i64 (omU (omJ n)%12+1),.bool (decide (omU (omJ n+1)=omU (omJ n))),.int .i64 (omL n-30*omJ n+1)],.int .i64 0]),(38,.int .i64 n),(4,.int .i64 n),(36,.int .i64 n),(35,.agg #[.int .i64 y,.int .i64 m,.bool l,.int .i64 d]),(26,.bool false),(34,.bool false),(33,.bool false),(32,.int .i64 y),(31,.pointer (some ⟨g1,0,none⟩)),(30,.bool false),(29,.bool false),(28,.int .i64 y),(27,.pointer (some ⟨g1,0,none⟩)),(7,.bool false),(25,.bool false),(24,.bool false),(23,.int .i64 d),(22,.pointer (some ⟨g1,3,none⟩)),(21,.bool false),(20,.bool false),(19,.bool false),(18,.int .i64 d),(17,.pointer (some ⟨g1,3,none⟩)),(16,.bool false),(15,.bool false),(14,.bool false),(13,.int .i64 m),(12,.pointer (some ⟨g1,1,none⟩)),(11,.bool false),(10,.bool false),(9,.int .i64 m),(8,.pointer (some ⟨g1,1,none⟩)),(3,.int .i64 0),(1,.pointer (some ⟨g1,0,none⟩)),(0,.agg #[.int .i64 y,.int .i64 m,.bool l,.int .i64 d])]) hF (r_assign ev_c) rfl rfl rfl rfl fun a hF=>?_
                         refine E.opset (L':=[(3,.int .i64 3),(2,.int .i64 0),(46,.bool true),(49,.bool true),(48,.agg #[.int .i64 y,.int .i64 m,.bool l,.int .i64 d]),(47,.agg #[.int .i64 (omU (omJ n)/12),.int .i64 (omU (omJ n)%12+1),.bool (decide (omU (omJ n+1)=omU (omJ n))),.int .i64 (omL n-30*omJ n+1)]),(42,.bool false),(44,.bool false),(43,.int .i64 0),(6,.int .i64 0),(5,.pointer (some ⟨g5,0,none⟩)),(41,.int .i64 0),(40,.agg #[.int .i64 (omU (omJ n)/12),.int .i64 (omU (omJ n)%12+1),.bool (decide (omU (omJ n+1)=omU (omJ n))),.int .i64 (omL n-30*omJ n+1)]),(37,.tuple #[.agg #[.int .i64 (omU (omJ n)/12),.int .i64 (omU (omJ n)%12+1),.bool (decide (omU (omJ n+1)=omU (omJ n))),.int .i64 (omL n-30*omJ n+1)],.int .i64 0]),(39,.tuple #[.agg #[.int .i64 (omU (omJ n)/12),.int .i64 (omU (omJ n)%12+1),.bool (decide (omU (omJ n+1)=omU (omJ n))),.int .i64 (omL n-30*omJ n+1)],.int .i64 0]),(38,.int .i64 n),(4,.int .i64 n),(36,.int .i64 n),(35,.agg #[.int .i64 y,.int .i64 m,.bool l,.int .i64 d]),(26,.bool false),(34,.bool false),(33,.bool false),(32,.int .i64 y),(31,.pointer (some ⟨g1,0,none⟩)),(30,.bool false),(29,.bool false),(28,.int .i64 y),(27,.pointer (some ⟨g1,0,none⟩)),(7,.bool false),(25,.bool false),(24,.bool false),(23,.int .i64 d),(22,.pointer (some ⟨g1,3,none⟩)),(21,.bool false),(20,.bool false),(19,.bool false),(18,.int .i64 d),(17,.pointer (some ⟨g1,3,none⟩)),(16,.bool false),(15,.bool false),(14,.bool false),(13,.int .i64 m),(12,.pointer (some ⟨g1,1,none⟩)),(11,.bool false),(10,.bool false),(9,.int .i64 m),(8,.pointer (some ⟨g1,1,none⟩)),(1,.pointer (some ⟨g1,0,none⟩)),(0,.agg #[.int .i64 y,.int .i64 m,.bool l,.int .i64 d])]) hF (r_assign ev_c) rfl rfl rfl rfl fun a hF=>?_
                         refine E.nil ?_
                         refine wp_ret ?_
                         have bel:=st.bel
                         refine bodyPost_ret (res_tmp2 Try.results26 (hF.at 1 rfl) (hF.at 0 rfl)) hF.dfr ?_
                         have hfx:=om_3 hn (by omega) (by omega) (by omega) hc12
                         exact⟨rv_int2 hfx.1 hfx.2,bel⟩))
                   ·first
                    |(exfalso;omega)
                    |(refine S.callx st hF (r_call Try.func25 en25.1 en25.2 (map1 (hF.at 0 rfl))) (omOfX_any n _ (by omega)) rfl rfl rfl rfl fun w13 a st hF=>?_
                      refine E.opv hF (r_move (hF.at 0 rfl)) rfl rfl rfl rfl fun a hF=>?_
                      refine E.opv hF (r_extract (v:= .agg #[.int .i64 0,.int .i64 0,.bool false,.int .i64 0]) (hF.at 0 rfl) rfl) rfl rfl rfl rfl fun a hF=>?_
                      refine E.opv hF (r_extract (v:= .int .i64 2) (hF.at 1 rfl) rfl) rfl rfl rfl rfl fun a hF=>?_
                      refine S.new st hF 1 rfl ty_OMD rfl rfl rfl rfl rfl fun g5 w14 a st hF=>?_
                      refine E.opv hF (r_assign (hF.at 1 rfl)) rfl rfl rfl rfl fun a hF=>?_
                      refine E.nil ?_
                      refine wp_seq ?_
                      refine wp_block ?_
                      refine wp_seq ?_
                      refine E.seq ?_
                      refine E.opv hF (r_move (hF.at 0 rfl)) rfl rfl rfl rfl fun a hF=>?_
                      refine E.opv hF (r_bin (hF.at 0 rfl) ev_c eg_scalar (bi_int (ic_neq (c:=true) (by decide)) (by simp))) rfl rfl rfl rfl fun a hF=>?_
                      refine E.opv hF (r_assign (hF.at 0 rfl)) rfl rfl rfl rfl fun a hF=>?_
                      refine E.nil ?_
                      refine wp_cond_true (hF.at 0 rfl) ?_
                      refine wp_seq ?_
                      refine E.seq ?_
                      refine E.opv hF (r_move (hF.at 3 rfl)) rfl rfl rfl rfl fun a hF=>?_
                      refine E.opset (L':=[(2,.int .i64 0),(45,.int .i64 2),(42,.bool true),(44,.bool true),(43,.int .i64 2),(6,.int .i64 2),(5,.pointer (some ⟨g5,0,none⟩)),(41,.int .i64 2),(40,.agg #[.int .i64 0,.int .i64 0,.bool false,.int .i64 0]),(37,.tuple #[.agg #[.int .i64 0,.int .i64 0,.bool false,.int .i64 0],.int .i64 2]),(39,.tuple #[.agg #[.int .i64 0,.int .i64 0,.bool false,.int .i64 0],.int .i64 2]),(38,.int .i64 n),(4,.int .i64 n),(36,.int .i64 n),(35,.agg #[.int .i64 y,.int .i64 m,.bool l,.int .i64 d]),(26,.bool false),(34,.bool false),(33,.bool false),(32,.int .i64 y),(31,.pointer (some ⟨g1,0,none⟩)),(30,.bool false),(29,.bool false),(28,.int .i64 y),(27,.pointer (some ⟨g1,0,none⟩)),(7,.bool false),(25,.bool false),(24,.bool false),(23,.int .i64 d),(22,.pointer (some ⟨g1,3,none⟩)),(21,.bool false),(20,.bool false),(19,.bool false),(18,.int .i64 d),(17,.pointer (some ⟨g1,3,none⟩)),(16,.bool false),(15,.bool false),(14,.bool false),(13,.int .i64 m),(12,.pointer (some ⟨g1,1,none⟩)),(11,.bool false),(10,.bool false),(9,.int .i64 m),(8,.pointer (some ⟨g1,1,none⟩)),(3,.int .i64 0),(1,.pointer (some ⟨g1,0,none⟩)),(0,.agg #[.int .i64 y,.int .i64 m,.bool l,.int .i64 d])]) hF (r_assign ev_c) rfl rfl rfl rfl fun a hF=>?_
                      refine E.opset (L':=[(3,.int .i64 2),(2,.int .i64 0),(45,.int .i64 2),(42,.bool true),(44,.bool true),(43,.int .i64 2),(6,.int .i64 2),(5,.pointer (some ⟨g5,0,none⟩)),(41,.int .i64 2),(40,.agg #[.int .i64 0,.int .i64 0,.bool false,.int .i64 0]),(37,.tuple #[.agg #[.int .i64 0,.int .i64 0,.bool false,.int .i64 0],.int .i64 2]),(39,.tuple #[.agg #[.int .i64 0,.int .i64 0,.bool false,.int .i64 0],.int .i64 2]),(38,.int .i64 n),(4,.int .i64 n),(36,.int .i64 n),(35,.agg #[.int .i64 y,.int .i64 m,.bool l,.int .i64 d]),(26,.bool false),(34,.bool false),(33,.bool false),(32,.int .i64 y),(31,.pointer (some ⟨g1,0,none⟩)),(30,.bool false),(29,.bool false),(28,.int .i64 y),(27,.pointer (some ⟨g1,0,none⟩)),(7,.bool false),(25,.bool false),(24,.bool false),(23,.int .i64 d),(22,.pointer (some ⟨g1,3,none⟩)),(21,.bool false),(20,.bool false),(19,.bool false),(18,.int .i64 d),(17,.pointer (some ⟨g1,3,none⟩)),(16,.bool false),(15,.bool false),(14,.bool false),(13,.int .i64 m),(12,.pointer (some ⟨g1,1,none⟩)),(11,.bool false),(10,.bool false),(9,.int .i64 m),(8,.pointer (some ⟨g1,1,none⟩)),(1,.pointer (some ⟨g1,0,none⟩)),(0,.agg #[.int .i64 y,.int .i64 m,.bool l,.int .i64 d])]) hF (r_assign (hF.at 1 rfl)) rfl rfl rfl rfl fun a hF=>?_
                      refine E.nil ?_
                      refine wp_ret ?_
                      have bel:=st.bel
                      refine bodyPost_ret (res_tmp2 Try.results26 (hF.at 1 rfl) (hF.at 0 rfl)) hF.dfr ?_
                      have hfx:=om_2f hn (by omega) (by omega) (by omega)
                      exact⟨rv_int2 hfx.1 hfx.2,bel⟩)))))))
end Go.Proofs.Ytacnedknihlfnaa
