import Derived.Test.YtacnedknihlfnaaKB26
import Derived.Test.YtacnedknihlfnaaKB27
namespace Go.Proofs.Ytacnedknihlfnaa
open Go.RowKit
set_option maxRecDepth 100000
set_option linter.unusedVariables false
set_option maxHeartbeats 8000000
theorem en37:(Try.f37.name == "runtime.NumGoroutine")=false∧Try.f37.body.isNone=false:=⟨by decide+kernel,by kernel_rfl⟩
theorem en36:(Try.f36.name == "runtime.NumGoroutine")=false∧Try.f36.body.isNone=false:=⟨by decide+kernel,by kernel_rfl⟩
theorem en15:(Try.f15.name == "runtime.NumGoroutine")=false∧Try.f15.body.isNone=false:=⟨by decide+kernel,by kernel_rfl⟩
theorem en45:(Try.f45.name == "runtime.NumGoroutine")=false∧Try.f45.body.isNone=false:=⟨by decide+kernel,by kernel_rfl⟩
theorem en18:(Try.f18.name == "runtime.NumGoroutine")=false∧Try.f18.body.isNone=false:=⟨by decide+kernel,by kernel_rfl⟩
theorem en41:(Try.f41.name == "runtime.NumGoroutine")=false∧Try.f41.body.isNone=false:=⟨by decide+kernel,by kernel_rfl⟩
theorem en14:(Try.f14.name == "runtime.NumGoroutine")=false∧Try.f14.body.isNone=false:=⟨by decide+kernel,by kernel_rfl⟩
theorem osYear_any (w:World):
 Calls Try.prog 37 #[] w (RqPost w ysR):=by
 have st:=St.start w
 refine E.enter (nt:=2) (L:=[]) Try.func37 rfl rfl rfl args_nil ?_
 intro a hF
 refine wp_seq ?_
 refine E.seq ?_
 refine S.alloc st hF ty_Rat rfl rfl fun g0 w1 a st hF=>?_
 refine E.nil ?_
 refine wp_seq ?_
 refine E.seq ?_
 refine S.call st hF (r_call Try.func20 en20.1 en20.2 (map2 ev_c ev_c)) (rOf2_any (1577917500) (4320000) _ (by decide) (by decide) (by decide) (by decide)) (fun _ _ h=>h) Rq.cl rfl rfl rfl rfl fun vv3 w2 a st hF=>?_
 obtain⟨b5,ad5,n5,c5,ae5,m5,d5,rfl⟩:=Rq.form (st.f 0 rfl)
 refine S.sto st hF 0 rfl (hF.at 1 rfl) (hF.at 0 rfl) ty_Rat rfl rfl rfl rfl fun w6 a st hF=>?_
 refine E.nil ?_
 refine wp_ret ?_
 refine S.ret Try.results37 st hF (hF.at 1 rfl) 0 rfl ty_Rat rfl hF.dfr ?_
 have bel:=st.bel
 exact⟨_,rfl,(st.f 0 rfl),bel⟩
theorem osMonth_any (w:World):
 Calls Try.prog 36 #[] w (RqPost w msR):=by
 have st:=St.start w
 refine E.enter (nt:=2) (L:=[]) Try.func36 rfl rfl rfl args_nil ?_
 intro a hF
 refine wp_seq ?_
 refine E.seq ?_
 refine S.alloc st hF ty_Rat rfl rfl fun g0 w1 a st hF=>?_
 refine E.nil ?_
 refine wp_seq ?_
 refine E.seq ?_
 refine S.call st hF (r_call Try.func20 en20.1 en20.2 (map2 ev_c ev_c)) (rOf2_any (1577917500) (51840000) _ (by decide) (by decide) (by decide) (by decide)) (fun _ _ h=>h) Rq.cl rfl rfl rfl rfl fun vv3 w2 a st hF=>?_
 obtain⟨b5,ad5,n5,c5,ae5,m5,d5,rfl⟩:=Rq.form (st.f 0 rfl)
 refine S.sto st hF 0 rfl (hF.at 1 rfl) (hF.at 0 rfl) ty_Rat rfl rfl rfl rfl fun w6 a st hF=>?_
 refine E.nil ?_
 refine wp_ret ?_
 refine S.ret Try.results36 st hF (hF.at 1 rfl) 0 rfl ty_Rat rfl hF.dfr ?_
 have bel:=st.bel
 exact⟨_,rfl,(st.f 0 rfl),bel⟩
theorem osRise_any (w:World):
 Calls Try.prog 45 #[] w (RqPost w qrR):=by
 have st:=St.start w
 refine E.enter (nt:=2) (L:=[]) Try.func45 rfl rfl rfl args_nil ?_
 intro a hF
 refine wp_seq ?_
 refine E.seq ?_
 refine S.alloc st hF ty_Rat rfl rfl fun g0 w1 a st hF=>?_
 refine E.nil ?_
 refine wp_seq ?_
 refine E.seq ?_
 refine S.call st hF (r_call Try.func20 en20.1 en20.2 (map2 ev_c ev_c)) (rOf2_any (1) (4) _ (by decide) (by decide) (by decide) (by decide)) (fun _ _ h=>h) Rq.cl rfl rfl rfl rfl fun vv3 w2 a st hF=>?_
 obtain⟨b5,ad5,n5,c5,ae5,m5,d5,rfl⟩:=Rq.form (st.f 0 rfl)
 refine S.sto st hF 0 rfl (hF.at 1 rfl) (hF.at 0 rfl) ty_Rat rfl rfl rfl rfl fun w6 a st hF=>?_
 refine E.nil ?_
 refine wp_ret ?_
 refine S.ret Try.results45 st hF (hF.at 1 rfl) 0 rfl ty_Rat rfl hF.dfr ?_
 have bel:=st.bel
 exact⟨_,rfl,(st.f 0 rfl),bel⟩
theorem osSun_any (n:Int) (w:World) (b0: -9223372036854775808≤n) (b1:n≤9223372036854775807):
 Calls Try.prog 18 #[.int .i64 n] w (RqPost w (suR n)):=by
 have st:=St.start w
 refine E.enter (nt:=9) (L:=[(0,.int .i64 n)]) Try.func18 rfl rfl rfl (args_cons (i:=0) rfl args_nil) ?_
 intro a hF
 refine wp_seq ?_
 refine E.seq ?_
 refine S.alloc st hF ty_Rat rfl rfl fun g2 w1 a st hF=>?_
 refine E.nil ?_
 refine wp_seq ?_
 refine E.seq ?_
 refine E.opv hF (r_move (hF.at 1 rfl)) rfl rfl rfl rfl fun a hF=>?_
 refine S.call st hF (r_call Try.func40 en40.1 en40.2 (map1 (hF.at 0 rfl))) (rWhole_any (n) _ (by omega) (by omega)) (fun _ _ h=>h) Rq.cl rfl rfl rfl rfl fun vv3 w2 a st hF=>?_
 obtain⟨b5,ad5,n5,c5,ae5,m5,d5,rfl⟩:=Rq.form (st.f 0 rfl)
 refine S.call st hF (r_call Try.func40 en40.1 en40.2 (map1 ev_c)) (rWhole_any ((-1132959)) _ (by decide) (by decide)) (fun _ _ h=>h) Rq.cl rfl rfl rfl rfl fun vv7 w6 a st hF=>?_
 obtain⟨b9,ad9,n9,c9,ae9,m9,d9,rfl⟩:=Rq.form (st.f 0 rfl)
 refine S.call st hF (r_call Try.func43 en43.1 en43.2 (map2 (hF.at 1 rfl) (hF.at 0 rfl))) (rSub_any _ _ _ _ 2 _ (st.f 1 rfl) (st.f 0 rfl) ((rlim_int (limz_64 (by omega) (by omega)) (by omega)).up _ (by omega)) ((rlim_int (limz_64 (by decide) (by decide)) (by omega)).up _ (by omega)) (by omega)) (fun _ _ h=>h) Rq.cl rfl rfl rfl rfl fun vv11 w10 a st hF=>?_
 obtain⟨b13,ad13,n13,c13,ae13,m13,d13,rfl⟩:=Rq.form (st.f 0 rfl)
 refine S.call st hF (r_call Try.func45 en45.1 en45.2 map0) (osRise_any _) (fun _ _ h=>h) Rq.cl rfl rfl rfl rfl fun vv15 w14 a st hF=>?_
 obtain⟨b17,ad17,n17,c17,ae17,m17,d17,rfl⟩:=Rq.form (st.f 0 rfl)
 refine S.call st hF (r_call Try.func44 en44.1 en44.2 (map2 (hF.at 1 rfl) (hF.at 0 rfl))) (rAdd_any _ _ _ (qrR) (max (2+2+1) 2) _ (st.f 1 rfl) (st.f 0 rfl) ((rlim_sub (rlim_int (limz_64 (by omega) (by omega)) (by omega)) (rlim_int (limz_64 (by decide) (by decide)) (by omega))).up _ (by omega)) (qrR_lim.up _ (by omega)) (by omega)) (fun _ _ h=>h) Rq.cl rfl rfl rfl rfl fun vv19 w18 a st hF=>?_
 obtain⟨b21,ad21,n21,c21,ae21,m21,d21,rfl⟩:=Rq.form (st.f 0 rfl)
 refine S.sto st hF 0 rfl (hF.at 6 rfl) (hF.at 0 rfl) ty_Rat rfl rfl rfl rfl fun w22 a st hF=>?_
 refine E.nil ?_
 refine wp_ret ?_
 refine S.ret Try.results18 st hF (hF.at 6 rfl) 0 rfl ty_Rat rfl hF.dfr ?_
 have bel:=st.bel
 exact⟨_,rfl,(st.f 0 rfl),bel⟩
theorem osflo_any (v1:Value) (qx:Rat) (k:Nat) (n:Int) (w:World) (h1:Rq w v1 qx) (hl:RLim qx k) (hk:k≤10000) (he:qx.floor=n) (hb0: -9223372036854775808≤n) (hb1:n≤9223372036854775807):
 Calls Try.prog 41 #[v1] w (ValPost w (.int .i64 n)):=by
 have st:=St.start w
 refine E.enter (nt:=11) (L:=[(0,v1)]) Try.func41 rfl rfl rfl (args_cons (i:=0) rfl args_nil) ?_
 intro a hF
 refine wp_seq ?_
 refine E.seq ?_
 obtain⟨b2,ad2,n2,c2,ae2,m2,d2,rfl⟩:=Rq.form h1
 refine S.box st hF (hF.at 0 rfl) rfl rfl fun g1 w1 a st hF=>?_
 refine E.opv hF (r_assign ev_c) rfl rfl rfl rfl fun a hF=>?_
 refine E.nil ?_
 refine wp_seq ?_
 refine E.seq ?_
 refine E.opv hF (r_load (hF.at 1 rfl) (ld_all ty_Rat (st.bk 0 rfl) rfl)) rfl rfl rfl rfl fun a hF=>?_
 refine S.callx st hF (r_call Try.func65 en65.1 en65.2 (map1 (hF.at 0 rfl))) (days_is _ qx k n _ (h1.below st.bel) hl hk he hb0 hb1) rfl rfl rfl rfl fun w3 a st hF=>?_
 refine E.opv hF (r_move (hF.at 0 rfl)) rfl rfl rfl rfl fun a hF=>?_
 refine E.opv hF (r_extract (v:= .int .i64 n) (hF.at 0 rfl) rfl) rfl rfl rfl rfl fun a hF=>?_
 refine E.opv hF (r_extract (v:= .bool true) (hF.at 1 rfl) rfl) rfl rfl rfl rfl fun a hF=>?_
 refine E.opv hF (r_assign (hF.at 1 rfl)) rfl rfl rfl rfl fun a hF=>?_
 refine E.opv hF (r_assign (hF.at 1 rfl)) rfl rfl rfl rfl fun a hF=>?_
 refine E.nil ?_
 refine wp_seq ?_
 refine E.seq ?_
 refine E.opv hF (r_move (hF.at 1 rfl)) rfl rfl rfl rfl fun a hF=>?_
 refine E.opset (L':=[(2,.int .i64 n),(10,.int .i64 n),(4,.bool true),(3,.int .i64 n),(9,.bool true),(8,.int .i64 n),(5,.tuple #[.int .i64 n,.bool true]),(7,.tuple #[.int .i64 n,.bool true]),(6,.agg #[.bool b2,.slice ad2 n2 c2,.slice ae2 m2 d2]),(1,.pointer (some ⟨g1,0,none⟩)),(0,.agg #[.bool b2,.slice ad2 n2 c2,.slice ae2 m2 d2])]) hF (r_assign (hF.at 0 rfl)) rfl rfl rfl rfl fun a hF=>?_
 refine E.nil ?_
 refine wp_ret ?_
 have bel:=st.bel
 refine bodyPost_ret (res_tmp Try.results41 (hF.at 0 rfl)) hF.dfr ?_
 exact⟨rfl,bel⟩
theorem osIn_any (n:Int) (w:World) (hn0: -3000000≤n) (hn1:n≤3000000):
 Calls Try.prog 15 #[.int .i64 n] w (ValPost w (.bool true)):=by
 have st:=St.start w
 refine E.enter (nt:=9) (L:=[(0,.int .i64 n)]) Try.func15 rfl rfl rfl (args_cons (i:=0) rfl args_nil) ?_
 intro a hF
 refine wp_seq ?_
 refine E.seq ?_
 refine E.opv hF (r_assign ev_c) rfl rfl rfl rfl fun a hF=>?_
 refine E.nil ?_
 refine wp_seq ?_
 refine E.seq ?_
 refine E.opv hF (r_move (hF.at 1 rfl)) rfl rfl rfl rfl fun a hF=>?_
 by_cases hc1:(-3000000)≤n
 ·first
  |(exfalso;omega)
  |(refine E.opv hF (r_bin (hF.at 0 rfl) ev_c eg_scalar (bi_int (ic_geq (c:=true) (dec_tt hc1)) (by simp))) rfl rfl rfl rfl fun a hF=>?_
    refine E.opv hF (r_move (hF.at 0 rfl)) rfl rfl rfl rfl fun a hF=>?_
    refine E.opvg hF (r_move (hF.at 4 rfl)) (wanted_by rfl rfl (hF.at 0 rfl) rfl) rfl rfl rfl fun a hF=>?_
    by_cases hc2:n≤3000000
    ·first
     |(exfalso;omega)
     |(refine E.opvg hF (r_bin (hF.at 0 rfl) ev_c eg_scalar (bi_int (ic_leq (c:=true) (dec_tt hc2)) (by simp))) (wanted_by rfl rfl (hF.at 1 rfl) rfl) rfl rfl rfl fun a hF=>?_
       refine E.opv hF (r_pick_t (hF.at 2 rfl) (hF.at 0 rfl)) rfl rfl rfl rfl fun a hF=>?_
       refine E.opset (L':=[(2,.bool true),(8,.bool true),(7,.bool true),(6,.int .i64 n),(5,.bool true),(4,.bool true),(3,.int .i64 n),(0,.int .i64 n)]) hF (r_assign (hF.at 0 rfl)) rfl rfl rfl rfl fun a hF=>?_
       refine E.nil ?_
       refine wp_ret ?_
       have bel:=st.bel
       refine bodyPost_ret (res_tmp Try.results15 (hF.at 0 rfl)) hF.dfr ?_
       exact⟨rfl,bel⟩)
    ·first
     |(exfalso;omega)
     |(refine E.opvg hF (r_bin (hF.at 0 rfl) ev_c eg_scalar (bi_int (ic_leq (c:=false) (dec_ff hc2)) (by simp))) (wanted_by rfl rfl (hF.at 1 rfl) rfl) rfl rfl rfl fun a hF=>?_
       refine E.opv hF (r_pick_t (hF.at 2 rfl) (hF.at 0 rfl)) rfl rfl rfl rfl fun a hF=>?_
       refine E.opset (L':=[(2,.bool false),(8,.bool false),(7,.bool false),(6,.int .i64 n),(5,.bool true),(4,.bool true),(3,.int .i64 n),(0,.int .i64 n)]) hF (r_assign (hF.at 0 rfl)) rfl rfl rfl rfl fun a hF=>?_
       refine E.nil ?_
       refine wp_ret ?_
       have bel:=st.bel
       refine bodyPost_ret (res_tmp Try.results15 (hF.at 0 rfl)) hF.dfr ?_
       exfalso;omega))
 ·first
  |(exfalso;omega)
  |(refine E.opv hF (r_bin (hF.at 0 rfl) ev_c eg_scalar (bi_int (ic_geq (c:=false) (dec_ff hc1)) (by simp))) rfl rfl rfl rfl fun a hF=>?_
    refine E.opv hF (r_move (hF.at 0 rfl)) rfl rfl rfl rfl fun a hF=>?_
    refine E.unwanted hF (wanted_by rfl rfl (hF.at 0 rfl) rfl) rfl rfl rfl fun a hF=>?_
    refine E.unwanted hF (wanted_by rfl rfl (hF.at 1 rfl) rfl) rfl rfl rfl fun a hF=>?_
    refine E.opv hF (r_pick_f (hF.at 2 rfl) ev_c) rfl rfl rfl rfl fun a hF=>?_
    refine E.opset (L':=[(2,.bool false),(8,.bool false),(7,undef),(6,undef),(5,.bool false),(4,.bool false),(3,.int .i64 n),(0,.int .i64 n)]) hF (r_assign (hF.at 0 rfl)) rfl rfl rfl rfl fun a hF=>?_
    refine E.nil ?_
    refine wp_ret ?_
    have bel:=st.bel
    refine bodyPost_ret (res_tmp Try.results15 (hF.at 0 rfl)) hF.dfr ?_
    exfalso;omega)
theorem osInX_any (n:Int) (w:World) (hx:¬(-3000000≤n∧n≤3000000)):
 Calls Try.prog 15 #[.int .i64 n] w (ValPost w (.bool false)):=by
 have st:=St.start w
 refine E.enter (nt:=9) (L:=[(0,.int .i64 n)]) Try.func15 rfl rfl rfl (args_cons (i:=0) rfl args_nil) ?_
 intro a hF
 refine wp_seq ?_
 refine E.seq ?_
 refine E.opv hF (r_assign ev_c) rfl rfl rfl rfl fun a hF=>?_
 refine E.nil ?_
 refine wp_seq ?_
 refine E.seq ?_
 refine E.opv hF (r_move (hF.at 1 rfl)) rfl rfl rfl rfl fun a hF=>?_
 by_cases hc1:(-3000000)≤n
 ·first
  |(exfalso;omega)
  |(refine E.opv hF (r_bin (hF.at 0 rfl) ev_c eg_scalar (bi_int (ic_geq (c:=true) (dec_tt hc1)) (by simp))) rfl rfl rfl rfl fun a hF=>?_
    refine E.opv hF (r_move (hF.at 0 rfl)) rfl rfl rfl rfl fun a hF=>?_
    refine E.opvg hF (r_move (hF.at 4 rfl)) (wanted_by rfl rfl (hF.at 0 rfl) rfl) rfl rfl rfl fun a hF=>?_
    by_cases hc2:n≤3000000
    ·first
     |(exfalso;omega)
     |(refine E.opvg hF (r_bin (hF.at 0 rfl) ev_c eg_scalar (bi_int (ic_leq (c:=true) (dec_tt hc2)) (by simp))) (wanted_by rfl rfl (hF.at 1 rfl) rfl) rfl rfl rfl fun a hF=>?_
       refine E.opv hF (r_pick_t (hF.at 2 rfl) (hF.at 0 rfl)) rfl rfl rfl rfl fun a hF=>?_
       refine E.opset (L':=[(2,.bool true),(8,.bool true),(7,.bool true),(6,.int .i64 n),(5,.bool true),(4,.bool true),(3,.int .i64 n),(0,.int .i64 n)]) hF (r_assign (hF.at 0 rfl)) rfl rfl rfl rfl fun a hF=>?_
       refine E.nil ?_
       refine wp_ret ?_
       have bel:=st.bel
       refine bodyPost_ret (res_tmp Try.results15 (hF.at 0 rfl)) hF.dfr ?_
       exfalso;omega)
    ·first
     |(exfalso;omega)
     |(refine E.opvg hF (r_bin (hF.at 0 rfl) ev_c eg_scalar (bi_int (ic_leq (c:=false) (dec_ff hc2)) (by simp))) (wanted_by rfl rfl (hF.at 1 rfl) rfl) rfl rfl rfl fun a hF=>?_
       refine E.opv hF (r_pick_t (hF.at 2 rfl) (hF.at 0 rfl)) rfl rfl rfl rfl fun a hF=>?_
       refine E.opset (L':=[(2,.bool false),(8,.bool false),(7,.bool false),(6,.int .i64 n),(5,.bool true),(4,.bool true),(3,.int .i64 n),(0,.int .i64 n)]) hF (r_assign (hF.at 0 rfl)) rfl rfl rfl rfl fun a hF=>?_
       refine E.nil ?_
       refine wp_ret ?_
       have bel:=st.bel
       refine bodyPost_ret (res_tmp Try.results15 (hF.at 0 rfl)) hF.dfr ?_
       exact⟨rfl,bel⟩))
 ·first
  |(exfalso;omega)
  |(refine E.opv hF (r_bin (hF.at 0 rfl) ev_c eg_scalar (bi_int (ic_geq (c:=false) (dec_ff hc1)) (by simp))) rfl rfl rfl rfl fun a hF=>?_
    refine E.opv hF (r_move (hF.at 0 rfl)) rfl rfl rfl rfl fun a hF=>?_
    refine E.unwanted hF (wanted_by rfl rfl (hF.at 0 rfl) rfl) rfl rfl rfl fun a hF=>?_
    refine E.unwanted hF (wanted_by rfl rfl (hF.at 1 rfl) rfl) rfl rfl rfl fun a hF=>?_
    refine E.opv hF (r_pick_f (hF.at 2 rfl) ev_c) rfl rfl rfl rfl fun a hF=>?_
    refine E.opset (L':=[(2,.bool false),(8,.bool false),(7,undef),(6,undef),(5,.bool false),(4,.bool false),(3,.int .i64 n),(0,.int .i64 n)]) hF (r_assign (hF.at 0 rfl)) rfl rfl rfl rfl fun a hF=>?_
    refine E.nil ?_
    refine wp_ret ?_
    have bel:=st.bel
    refine bodyPost_ret (res_tmp Try.results15 (hF.at 0 rfl)) hF.dfr ?_
    exact⟨rfl,bel⟩)
theorem osOf_any (n:Int) (w:World) (hn0: -3000000≤n) (hn1:n≤3000000):
 Calls Try.prog 14 #[.int .i64 n] w (ValPost w (.tuple #[.agg #[.int .i64 (osM n/12),.int .i64 (osM n%12+1),.int .i64 (osD n)],.int .i64 0])):=by
 have hob:=osM_in hn0 hn1
 have hod:=osD_bd n
 have st:=St.start w
 refine E.enter (nt:=30) (L:=[(0,.int .i64 n)]) Try.func14 rfl rfl rfl (args_cons (i:=0) rfl args_nil) ?_
 intro a hF
 refine wp_seq ?_
 refine E.seq ?_
 refine S.alloc st hF ty_OSD rfl rfl fun g2 w1 a st hF=>?_
 refine E.opv hF (r_assign ev_c) rfl rfl rfl rfl fun a hF=>?_
 refine E.nil ?_
 refine wp_seq ?_
 refine wp_seq ?_
 refine E.seq ?_
 refine E.opv hF (r_move (hF.at 2 rfl)) rfl rfl rfl rfl fun a hF=>?_
 refine S.callx st hF (r_call Try.func15 en15.1 en15.2 (map1 (hF.at 0 rfl))) (osIn_any n _ (by omega) (by omega)) rfl rfl rfl rfl fun w2 a st hF=>?_
 refine E.opv hF (r_un (hF.at 0 rfl) (bn_not _ false rfl)) rfl rfl rfl rfl fun a hF=>?_
 refine E.nil ?_
 refine wp_cond_false (hF.at 0 rfl) ?_
 refine wp_skip ?_
 refine E.norm ?_
 refine wp_seq ?_
 refine E.seq ?_
 refine E.opv hF (r_move (hF.at 5 rfl)) rfl rfl rfl rfl fun a hF=>?_
 refine S.call st hF (r_call Try.func18 en18.1 en18.2 (map1 (hF.at 0 rfl))) (osSun_any n _ (by omega) (by omega)) (fun _ _ h=>h) Rq.cl rfl rfl rfl rfl fun vv4 w3 a st hF=>?_
 obtain⟨b6,ad6,n6,c6,ae6,m6,d6,rfl⟩:=Rq.form (st.f 0 rfl)
 refine S.new st hF 0 rfl ty_Rat rfl rfl rfl rfl rfl fun g4 w7 a st hF=>?_
 refine E.nil ?_
 refine wp_seq ?_
 refine E.drawn 6 mixed hF [12,13,14,15,16,5] [(fun _ v=>v= .agg #[.bool b6,.slice ad6 n6 c6,.slice ae6 m6 d6]),(fun w v=>Rq w v (msR)),(fun w v=>Rq w v ((suR n)/(msR))),(fun w v=>Rq w v (((12:Int):Rat))),(fun w v=>Rq w v (rmod ((suR n)/(msR)) (((12:Int):Rat)))),(fun w v=>∃g,v= .pointer (some ⟨g,0,none⟩)∧w7.heap.size≤g∧Own w g [.bool false,.slice none 0 0,.slice none 0 0])] [5] (by decide+kernel) (by decide+kernel) rfl rfl rfl ⟨(Mb.eq _),(fun _ _ _ h hb=>h.below hb),(fun _ _ _ h hb=>h.below hb),(fun _ _ _ h hb=>h.below hb),(fun _ _ _ h hb=>h.below hb),(fun _ _ _ ⟨g,e,l,o⟩ hb=>⟨g,e,l,o.below hb⟩),trivial⟩ ⟨fun _ _ ⟨g,e,_,o⟩=>⟨g,e,o.lt⟩,trivial⟩ ⟨?_,?_,?_,?_,?_,?_,trivial⟩ ?_
 ·intro a' w' hF' hb hd
  exact dv0 (r_load (hF'.at 0 rfl) (ld_all ty_Rat ((st.bk 0 rfl).below hb) rfl)) rfl rfl rfl
 ·intro a' w' hF' hb hd
  exact dc0 (r_call Try.func36 en36.1 en36.2 map0) (osMonth_any _) rfl rfl
 ·intro a' w' hF' hb hd
  have e12:=sHe hd 0 12 rfl rfl rfl rfl
  obtain⟨v13_0,e13,h13_1⟩:=sH hd 1 13 rfl rfl rfl rfl
  exact dc0 (r_call Try.func39 en39.1 en39.2 (map2 e12 e13)) (rDiv_any _ _ (suR n) (msR) (max 8 2) _ ((st.f 0 rfl).below hb) h13_1 ((suR_lim (n:=n) (by omega) (by omega)).up _ (by omega)) (msR_lim.up _ (by omega)) (by omega)) rfl rfl
 ·intro a' w' hF' hb hd
  exact dc0 (r_call Try.func40 en40.1 en40.2 (map1 ev_c)) (rWhole_any (12) _ (by decide) (by decide)) rfl rfl
 ·intro a' w' hF' hb hd
  obtain⟨v14_0,e14,h14_1⟩:=sH hd 0 14 rfl rfl rfl rfl
  obtain⟨v15_0,e15,h15_1⟩:=sH hd 1 15 rfl rfl rfl rfl
  exact dc0 (r_call Try.func38 en38.1 en38.2 (map2 e14 e15)) (cMod_any _ _ _ _ (8+2) 2 _ h14_1 h15_1 (rlim_div (suR_lim (n:=n) (by omega) (by omega)) msR_lim) (rlim_int (limz_64 (by decide) (by decide)) (by omega)) (by omega) (by omega)) rfl rfl
 ·intro a' w' hF' hb hd
  exact da0 ty_Rat rfl hb.size rfl
 intro a w8 hF bb hall hne
 have s0:=st
 replace st:=st.to bb
 obtain⟨vv9,e16,hh10⟩:=sS hall 4 16 rfl rfl
 replace st:=st.add hh10 (Rq.cl _)
 clear hh10
 obtain⟨_,e5,g5,rfl,ge5,o5⟩:=sS hall 5 5 rfl rfl
 replace st:=st.push o5.blk (Nat.le_trans s0.bel.size ge5) (s0.ne ge5)
 clear o5
 clear hall hne bb s0
 obtain⟨b11,ad11,n11,c11,ae11,m11,d11,rfl⟩:=Rq.form (st.f 0 rfl)
 replace hF:=hF.add e16
 clear e16
 replace hF:=hF.add e5
 clear e5
 refine S.sto st hF 0 rfl (hF.at 0 rfl) (hF.at 1 rfl) ty_Rat rfl rfl rfl rfl fun w12 a st hF=>?_
 refine E.nil ?_
 refine wp_seq ?_
 refine E.drawn 13 mixed hF [17,18,19,20,21,22,23,24,25,26,27,28,29] [(fun _ v=>v= .agg #[.bool b6,.slice ad6 n6 c6,.slice ae6 m6 d6]),(fun w v=>Rq w v (ysR)),(fun w v=>Rq w v ((suR n)/(ysR))),(fun _ v=>v= .int .i64 (osM n/12)),(fun _ v=>v= .agg #[.bool b11,.slice ad11 n11 c11,.slice ae11 m11 d11]),(fun _ v=>v= .int .i64 (osM n%12)),(fun _ v=>v= .int .i64 ((osM n%12)+1)),(fun _ v=>v= .agg #[.bool b6,.slice ad6 n6 c6,.slice ae6 m6 d6]),(fun w v=>Rq w v (msR)),(fun w v=>Rq w v (rmod (suR n) (msR))),(fun _ v=>v= .int .i64 (osD n-1)),(fun _ v=>v= .int .i64 ((osD n-1)+1)),(fun _ v=>v= .agg #[.int .i64 (osM n/12),.int .i64 ((osM n%12)+1),.int .i64 ((osD n-1)+1)])] [] (by decide+kernel) (by decide+kernel) rfl rfl rfl ⟨(Mb.eq _),(fun _ _ _ h hb=>h.below hb),(fun _ _ _ h hb=>h.below hb),(Mb.eq _),(Mb.eq _),(Mb.eq _),(Mb.eq _),(Mb.eq _),(fun _ _ _ h hb=>h.below hb),(fun _ _ _ h hb=>h.below hb),(Mb.eq _),(Mb.eq _),(Mb.eq _),trivial⟩ trivial ⟨?_,?_,?_,?_,?_,?_,?_,?_,?_,?_,?_,?_,?_,trivial⟩ ?_
 ·intro a' w' hF' hb hd
  exact dv0 (r_load (hF'.at 2 rfl) (ld_all ty_Rat ((st.bk 1 rfl).below hb) rfl)) rfl rfl rfl
 ·intro a' w' hF' hb hd
  exact dc0 (r_call Try.func37 en37.1 en37.2 map0) (osYear_any _) rfl rfl
 ·intro a' w' hF' hb hd
  have e17:=sHe hd 0 17 rfl rfl rfl rfl
  obtain⟨v18_0,e18,h18_1⟩:=sH hd 1 18 rfl rfl rfl rfl
  exact dc0 (r_call Try.func39 en39.1 en39.2 (map2 e17 e18)) (rDiv_any _ _ (suR n) (ysR) (max 8 2) _ ((st.f 1 rfl).below hb) h18_1 ((suR_lim (n:=n) (by omega) (by omega)).up _ (by omega)) (ysR_lim.up _ (by omega)) (by omega)) rfl rfl
 ·intro a' w' hF' hb hd
  obtain⟨v19_0,e19,h19_1⟩:=sH hd 0 19 rfl rfl rfl rfl
  exact dcx0 (r_call Try.func41 en41.1 en41.2 (map1 e19)) (osflo_any _ _ (8+2) (osM n/12) _ h19_1 (rlim_div (suR_lim (n:=n) (by omega) (by omega)) ysR_lim) (by omega) (su_ys n) (by omega) (by omega)) (fun _=>rfl) rfl rfl
 ·intro a' w' hF' hb hd
  exact dv0 (r_load (hF'.at 0 rfl) (ld_all ty_Rat ((st.bk 0 rfl).below hb) rfl)) rfl rfl rfl
 ·intro a' w' hF' hb hd
  have e21:=sHe hd 0 21 rfl rfl rfl rfl
  exact dcx0 (r_call Try.func41 en41.1 en41.2 (map1 e21)) (osflo_any _ _ ((8+2)+(8+2)+2+2+3) (osM n%12) _ ((st.f 0 rfl).below hb) (rmod_lim (k:=(8+2)) (j:=2) (rlim_div (suR_lim (n:=n) (by omega) (by omega)) msR_lim) (rlim_int (limz_64 (by decide) (by decide)) (by omega))) (by omega) (su_md n) (by omega) (by omega)) (fun _=>rfl) rfl rfl
 ·intro a' w' hF' hb hd
  have e22:=sHe hd 0 22 rfl rfl rfl rfl
  exact dv0 (r_bin e22 ev_c eg_scalar (ia_add (by omega) (by omega))) rfl rfl rfl
 ·intro a' w' hF' hb hd
  exact dv0 (r_load (hF'.at 2 rfl) (ld_all ty_Rat ((st.bk 1 rfl).below hb) rfl)) rfl rfl rfl
 ·intro a' w' hF' hb hd
  exact dc0 (r_call Try.func36 en36.1 en36.2 map0) (osMonth_any _) rfl rfl
 ·intro a' w' hF' hb hd
  have e24:=sHe hd 0 24 rfl rfl rfl rfl
  obtain⟨v25_0,e25,h25_1⟩:=sH hd 1 25 rfl rfl rfl rfl
  exact dc0 (r_call Try.func38 en38.1 en38.2 (map2 e24 e25)) (cMod_any _ _ (suR n) (msR) 8 2 _ ((st.f 1 rfl).below hb) h25_1 (suR_lim (n:=n) (by omega) (by omega)) msR_lim (by omega) (by omega)) rfl rfl
 ·intro a' w' hF' hb hd
  obtain⟨v26_0,e26,h26_1⟩:=sH hd 0 26 rfl rfl rfl rfl
  exact dcx0 (r_call Try.func41 en41.1 en41.2 (map1 e26)) (osflo_any _ _ (8+8+2+2+3) (osD n-1) _ h26_1 (rmod_lim (k:=8) (j:=2) (suR_lim (n:=n) (by omega) (by omega)) msR_lim) (by omega) (su_day n) (by omega) (by omega)) (fun _=>rfl) rfl rfl
 ·intro a' w' hF' hb hd
  have e27:=sHe hd 0 27 rfl rfl rfl rfl
  exact dv0 (r_bin e27 ev_c eg_scalar (ia_add (by omega) (by omega))) rfl rfl rfl
 ·intro a' w' hF' hb hd
  have e20:=sHe hd 0 20 rfl rfl rfl rfl
  have e23:=sHe hd 1 23 rfl rfl rfl rfl
  have e28:=sHe hd 2 28 rfl rfl rfl rfl
  exact dv0 (r_build (pair3 e20 e23 e28) (bd_OSD_012 _ _ _ _)) rfl rfl rfl
 intro a w13 hF bb hall hne
 replace st:=st.to bb
 have e29:=sSe hall 12 29 rfl rfl
 clear hall hne bb
 replace hF:=hF.add e29
 clear e29
 refine S.stoI st hF 2 rfl (hF.at 10 rfl) (hF.at 0 rfl) ty_OSD rfl rfl rfl fun w14 a st hF=>?_
 refine E.opset (L':=[(3,.int .i64 0),(29,.agg #[.int .i64 (osM n/12),.int .i64 ((osM n%12)+1),.int .i64 ((osD n-1)+1)]),(5,.pointer (some ⟨g5,0,none⟩)),(16,.agg #[.bool b11,.slice ad11 n11 c11,.slice ae11 m11 d11]),(4,.pointer (some ⟨g4,0,none⟩)),(11,.agg #[.bool b6,.slice ad6 n6 c6,.slice ae6 m6 d6]),(10,.int .i64 n),(8,.bool false),(7,.bool true),(6,.int .i64 n),(2,.pointer (some ⟨g2,0,none⟩)),(0,.int .i64 n)]) hF (r_assign ev_c) rfl rfl rfl rfl fun a hF=>?_
 refine E.nil ?_
 refine wp_ret ?_
 have bel:=st.bel
 refine bodyPost_ret (res_celltmp Try.results14 (hF.at 10 rfl) (ld_all ty_OSD (st.bk 2 rfl) rfl) (hF.at 0 rfl)) hF.dfr ?_
 refine⟨?_,bel⟩
 rw[show osD n-1+1=osD n by omega]
theorem osOfX_any (n:Int) (w:World) (hx:¬(-3000000≤n∧n≤3000000)):
 Calls Try.prog 14 #[.int .i64 n] w (ValPost w (.tuple #[.agg #[.int .i64 0,.int .i64 0,.int .i64 0],.int .i64 2])):=by
 have st:=St.start w
 refine E.enter (nt:=30) (L:=[(0,.int .i64 n)]) Try.func14 rfl rfl rfl (args_cons (i:=0) rfl args_nil) ?_
 intro a hF
 refine wp_seq ?_
 refine E.seq ?_
 refine S.alloc st hF ty_OSD rfl rfl fun g2 w1 a st hF=>?_
 refine E.opv hF (r_assign ev_c) rfl rfl rfl rfl fun a hF=>?_
 refine E.nil ?_
 refine wp_seq ?_
 refine wp_seq ?_
 refine E.seq ?_
 refine E.opv hF (r_move (hF.at 2 rfl)) rfl rfl rfl rfl fun a hF=>?_
 refine S.callx st hF (r_call Try.func15 en15.1 en15.2 (map1 (hF.at 0 rfl))) (osInX_any n _ (by omega)) rfl rfl rfl rfl fun w2 a st hF=>?_
 refine E.opv hF (r_un (hF.at 0 rfl) (bn_not _ true rfl)) rfl rfl rfl rfl fun a hF=>?_
 refine E.nil ?_
 refine wp_cond_true (hF.at 0 rfl) ?_
 refine wp_seq ?_
 refine E.seq ?_
 refine E.opv hF (r_build (by simp) (bd_OSD_ _)) rfl rfl rfl rfl fun a hF=>?_
 refine S.stoI st hF 0 rfl (hF.at 5 rfl) (hF.at 0 rfl) ty_OSD rfl rfl rfl fun w3 a st hF=>?_
 refine E.opset (L':=[(3,.int .i64 2),(9,.agg #[.int .i64 0,.int .i64 0,.int .i64 0]),(8,.bool true),(7,.bool false),(6,.int .i64 n),(2,.pointer (some ⟨g2,0,none⟩)),(0,.int .i64 n)]) hF (r_assign ev_c) rfl rfl rfl rfl fun a hF=>?_
 refine E.nil ?_
 refine wp_ret ?_
 have bel:=st.bel
 refine bodyPost_ret (res_celltmp Try.results14 (hF.at 5 rfl) (ld_all ty_OSD (st.bk 0 rfl) rfl) (hF.at 0 rfl)) hF.dfr ?_
 exact⟨rfl,bel⟩
end Go.Proofs.Ytacnedknihlfnaa
