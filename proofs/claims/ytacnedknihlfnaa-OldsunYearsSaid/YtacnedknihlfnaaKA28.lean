import Derived.Test.YtacnedknihlfnaaKA26
import Derived.Test.YtacnedknihlfnaaKA27
namespace Go.Proofs.Ytacnedknihlfnaa
open Go.RowKit
set_option maxRecDepth 100000
set_option linter.unusedVariables false
set_option maxHeartbeats 8000000
theorem en37:(Try.f37.name == "runtime.NumGoroutine")=false∧Try.f37.body.isNone=false:=⟨by decide+kernel,by kernel_rfl⟩
theorem en36:(Try.f36.name == "runtime.NumGoroutine")=false∧Try.f36.body.isNone=false:=⟨by decide+kernel,by kernel_rfl⟩
theorem en15:(Try.f15.name == "runtime.NumGoroutine")=false∧Try.f15.body.isNone=false:=⟨by decide+kernel,by kernel_rfl⟩
theorem en45:(Try.f45.name == "runtime.NumGoroutine")=false∧Try.f45.body.isNone=false:=⟨by decide+kernel,by kernel_rfl⟩
theorem en18:(Try.f18.name == "runtime.NumGoroutine")=false∧Try.f18.body.isNone=false:=⟨by decide+kernel,by kernel_rfl⟩
theorem en41:(Try.f41.name == "runtime.NumGoroutine")=false∧Try.f41.body.isNone=false:=⟨by decide+kernel,by kernel_rfl⟩
theorem en14:(Try.f14.name == "runtime.NumGoroutine")=false∧Try.f14.body.isNone=false:=⟨by decide+kernel,by kernel_rfl⟩
theorem en42:(Try.f42.name == "runtime.NumGoroutine")=false∧Try.f42.body.isNone=false:=⟨by decide+kernel,by kernel_rfl⟩
theorem en17:(Try.f17.name == "runtime.NumGoroutine")=false∧Try.f17.body.isNone=false:=⟨by decide+kernel,by kernel_rfl⟩
theorem osYear_any (w:World):
 Calls Try.prog 37 #[] w (RqPost w ysR):=by
 have st:=St.start w
 refine E.enter (nt:=2) (L:=[]) Try.func37 rfl rfl rfl args_nil ?_
 intro a hF
 refine wp_seq ?_
 refine E.seq ?_
 refine S.alloc st hF ty_Rat rfl rfl fun g0 w1 a st hF=>?_
 refine E.nil ?_
 refine wp_seq ?_
 refine E.seq ?_
 refine S.call st hF (r_call Try.func20 en20.1 en20.2 (map2 ev_c ev_c)) (rOf2_any (1577917500) (4320000) _ (by decide) (by decide) (by decide) (by decide)) (fun _ _ h=>h) Rq.cl rfl rfl rfl rfl fun vv3 w2 a st hF=>?_
 obtain⟨b5,ad5,n5,c5,ae5,m5,d5,rfl⟩:=Rq.form (st.f 0 rfl)
 refine S.sto st hF 0 rfl (hF.at 1 rfl) (hF.at 0 rfl) ty_Rat rfl rfl rfl rfl fun w6 a st hF=>?_
 refine E.nil ?_
 refine wp_ret ?_
 refine S.ret Try.results37 st hF (hF.at 1 rfl) 0 rfl ty_Rat rfl hF.dfr ?_
 have bel:=st.bel
 exact⟨_,rfl,(st.f 0 rfl),bel⟩
theorem osMonth_any (w:World):
 Calls Try.prog 36 #[] w (RqPost w msR):=by
 have st:=St.start w
 refine E.enter (nt:=2) (L:=[]) Try.func36 rfl rfl rfl args_nil ?_
 intro a hF
 refine wp_seq ?_
 refine E.seq ?_
 refine S.alloc st hF ty_Rat rfl rfl fun g0 w1 a st hF=>?_
 refine E.nil ?_
 refine wp_seq ?_
 refine E.seq ?_
 refine S.call st hF (r_call Try.func20 en20.1 en20.2 (map2 ev_c ev_c)) (rOf2_any (1577917500) (51840000) _ (by decide) (by decide) (by decide) (by decide)) (fun _ _ h=>h) Rq.cl rfl rfl rfl rfl fun vv3 w2 a st hF=>?_
 obtain⟨b5,ad5,n5,c5,ae5,m5,d5,rfl⟩:=Rq.form (st.f 0 rfl)
 refine S.sto st hF 0 rfl (hF.at 1 rfl) (hF.at 0 rfl) ty_Rat rfl rfl rfl rfl fun w6 a st hF=>?_
 refine E.nil ?_
 refine wp_ret ?_
 refine S.ret Try.results36 st hF (hF.at 1 rfl) 0 rfl ty_Rat rfl hF.dfr ?_
 have bel:=st.bel
 exact⟨_,rfl,(st.f 0 rfl),bel⟩
theorem osRise_any (w:World):
 Calls Try.prog 45 #[] w (RqPost w qrR):=by
 have st:=St.start w
 refine E.enter (nt:=2) (L:=[]) Try.func45 rfl rfl rfl args_nil ?_
 intro a hF
 refine wp_seq ?_
 refine E.seq ?_
 refine S.alloc st hF ty_Rat rfl rfl fun g0 w1 a st hF=>?_
 refine E.nil ?_
 refine wp_seq ?_
 refine E.seq ?_
 refine S.call st hF (r_call Try.func20 en20.1 en20.2 (map2 ev_c ev_c)) (rOf2_any (1) (4) _ (by decide) (by decide) (by decide) (by decide)) (fun _ _ h=>h) Rq.cl rfl rfl rfl rfl fun vv3 w2 a st hF=>?_
 obtain⟨b5,ad5,n5,c5,ae5,m5,d5,rfl⟩:=Rq.form (st.f 0 rfl)
 refine S.sto st hF 0 rfl (hF.at 1 rfl) (hF.at 0 rfl) ty_Rat rfl rfl rfl rfl fun w6 a st hF=>?_
 refine E.nil ?_
 refine wp_ret ?_
 refine S.ret Try.results45 st hF (hF.at 1 rfl) 0 rfl ty_Rat rfl hF.dfr ?_
 have bel:=st.bel
 exact⟨_,rfl,(st.f 0 rfl),bel⟩
theorem osSun_any (n:Int) (w:World) (b0: -9223372036854775808≤n) (b1:n≤9223372036854775807):
 Calls Try.prog 18 #[.int .i64 n] w (RqPost w (suR n)):=by
 have st:=St.start w
 refine E.enter (nt:=9) (L:=[(0,.int .i64 n)]) Try.func18 rfl rfl rfl (args_cons (i:=0) rfl args_nil) ?_
 intro a hF
 refine wp_seq ?_
 refine E.seq ?_
 refine S.alloc st hF ty_Rat rfl rfl fun g2 w1 a st hF=>?_
 refine E.nil ?_
 refine wp_seq ?_
 refine E.seq ?_
 refine E.opv hF (r_move (hF.at 1 rfl)) rfl rfl rfl rfl fun a hF=>?_
 refine S.call st hF (r_call Try.func40 en40.1 en40.2 (map1 (hF.at 0 rfl))) (rWhole_any (n) _ (by omega) (by omega)) (fun _ _ h=>h) Rq.cl rfl rfl rfl rfl fun vv3 w2 a st hF=>?_
 obtain⟨b5,ad5,n5,c5,ae5,m5,d5,rfl⟩:=Rq.form (st.f 0 rfl)
 refine S.call st hF (r_call Try.func40 en40.1 en40.2 (map1 ev_c)) (rWhole_any ((-1132959)) _ (by decide) (by decide)) (fun _ _ h=>h) Rq.cl rfl rfl rfl rfl fun vv7 w6 a st hF=>?_
 obtain⟨b9,ad9,n9,c9,ae9,m9,d9,rfl⟩:=Rq.form (st.f 0 rfl)
 refine S.call st hF (r_call Try.func43 en43.1 en43.2 (map2 (hF.at 1 rfl) (hF.at 0 rfl))) (rSub_any _ _ _ _ 2 _ (st.f 1 rfl) (st.f 0 rfl) ((rlim_int (limz_64 (by omega) (by omega)) (by omega)).up _ (by omega)) ((rlim_int (limz_64 (by decide) (by decide)) (by omega)).up _ (by omega)) (by omega)) (fun _ _ h=>h) Rq.cl rfl rfl rfl rfl fun vv11 w10 a st hF=>?_
 obtain⟨b13,ad13,n13,c13,ae13,m13,d13,rfl⟩:=Rq.form (st.f 0 rfl)
 refine S.call st hF (r_call Try.func45 en45.1 en45.2 map0) (osRise_any _) (fun _ _ h=>h) Rq.cl rfl rfl rfl rfl fun vv15 w14 a st hF=>?_
 obtain⟨b17,ad17,n17,c17,ae17,m17,d17,rfl⟩:=Rq.form (st.f 0 rfl)
 refine S.call st hF (r_call Try.func44 en44.1 en44.2 (map2 (hF.at 1 rfl) (hF.at 0 rfl))) (rAdd_any _ _ _ (qrR) (max (2+2+1) 2) _ (st.f 1 rfl) (st.f 0 rfl) ((rlim_sub (rlim_int (limz_64 (by omega) (by omega)) (by omega)) (rlim_int (limz_64 (by decide) (by decide)) (by omega))).up _ (by omega)) (qrR_lim.up _ (by omega)) (by omega)) (fun _ _ h=>h) Rq.cl rfl rfl rfl rfl fun vv19 w18 a st hF=>?_
 obtain⟨b21,ad21,n21,c21,ae21,m21,d21,rfl⟩:=Rq.form (st.f 0 rfl)
 refine S.sto st hF 0 rfl (hF.at 6 rfl) (hF.at 0 rfl) ty_Rat rfl rfl rfl rfl fun w22 a st hF=>?_
 refine E.nil ?_
 refine wp_ret ?_
 refine S.ret Try.results18 st hF (hF.at 6 rfl) 0 rfl ty_Rat rfl hF.dfr ?_
 have bel:=st.bel
 exact⟨_,rfl,(st.f 0 rfl),bel⟩
theorem osflo_any (v1:Value) (qx:Rat) (k:Nat) (n:Int) (w:World) (h1:Rq w v1 qx) (hl:RLim qx k) (hk:k≤10000) (he:qx.floor=n) (hb0: -9223372036854775808≤n) (hb1:n≤9223372036854775807):
 Calls Try.prog 41 #[v1] w (ValPost w (.int .i64 n)):=by
 have st:=St.start w
 refine E.enter (nt:=11) (L:=[(0,v1)]) Try.func41 rfl rfl rfl (args_cons (i:=0) rfl args_nil) ?_
 intro a hF
 refine wp_seq ?_
 refine E.seq ?_
 obtain⟨b2,ad2,n2,c2,ae2,m2,d2,rfl⟩:=Rq.form h1
 refine S.box st hF (hF.at 0 rfl) rfl rfl fun g1 w1 a st hF=>?_
 refine E.opv hF (r_assign ev_c) rfl rfl rfl rfl fun a hF=>?_
 refine E.nil ?_
 refine wp_seq ?_
 refine E.seq ?_
 refine E.opv hF (r_load (hF.at 1 rfl) (ld_all ty_Rat (st.bk 0 rfl) rfl)) rfl rfl rfl rfl fun a hF=>?_
 refine S.callx st hF (r_call Try.func65 en65.1 en65.2 (map1 (hF.at 0 rfl))) (days_is _ qx k n _ (h1.below st.bel) hl hk he hb0 hb1) rfl rfl rfl rfl fun w3 a st hF=>?_
 refine E.opv hF (r_move (hF.at 0 rfl)) rfl rfl rfl rfl fun a hF=>?_
 refine E.opv hF (r_extract (v:= .int .i64 n) (hF.at 0 rfl) rfl) rfl rfl rfl rfl fun a hF=>?_
 refine E.opv hF (r_extract (v:= .bool true) (hF.at 1 rfl) rfl) rfl rfl rfl rfl fun a hF=>?_
 refine E.opv hF (r_assign (hF.at 1 rfl)) rfl rfl rfl rfl fun a hF=>?_
 refine E.opv hF (r_assign (hF.at 1 rfl)) rfl rfl rfl rfl fun a hF=>?_
 refine E.nil ?_
 refine wp_seq ?_
 refine E.seq ?_
 refine E.opv hF (r_move (hF.at 1 rfl)) rfl rfl rfl rfl fun a hF=>?_
 refine E.opset (L':=[(2,.int .i64 n),(10,.int .i64 n),(4,.bool true),(3,.int .i64 n),(9,.bool true),(8,.int .i64 n),(5,.tuple #[.int .i64 n,.bool true]),(7,.tuple #[.int .i64 n,.bool true]),(6,.agg #[.bool b2,.slice ad2 n2 c2,.slice ae2 m2 d2]),(1,.pointer (some ⟨g1,0,none⟩)),(0,.agg #[.bool b2,.slice ad2 n2 c2,.slice ae2 m2 d2])]) hF (r_assign (hF.at 0 rfl)) rfl rfl rfl rfl fun a hF=>?_
 refine E.nil ?_
 refine wp_ret ?_
 have bel:=st.bel
 refine bodyPost_ret (res_tmp Try.results41 (hF.at 0 rfl)) hF.dfr ?_
 exact⟨rfl,bel⟩
theorem osIn_any (n:Int) (w:World) (hn0: -3000000≤n) (hn1:n≤3000000):
 Calls Try.prog 15 #[.int .i64 n] w (ValPost w (.bool true)):=by
 have st:=St.start w
 refine E.enter (nt:=9) (L:=[(0,.int .i64 n)]) Try.func15 rfl rfl rfl (args_cons (i:=0) rfl args_nil) ?_
 intro a hF
 refine wp_seq ?_
 refine E.seq ?_
 refine E.opv hF (r_assign ev_c) rfl rfl rfl rfl fun a hF=>?_
 refine E.nil ?_
 refine wp_seq ?_
 refine E.seq ?_
 refine E.opv hF (r_move (hF.at 1 rfl)) rfl rfl rfl rfl fun a hF=>?_
 by_cases hc1:(-3000000)≤n
 ·first
  |(exfalso;omega)
  |(refine E.opv hF (r_bin (hF.at 0 rfl) ev_c eg_scalar (bi_int (ic_geq (c:=true) (dec_tt hc1)) (by simp))) rfl rfl rfl rfl fun a hF=>?_
    refine E.opv hF (r_move (hF.at 0 rfl)) rfl rfl rfl rfl fun a hF=>?_
    refine E.opvg hF (r_move (hF.at 4 rfl)) (wanted_by rfl rfl (hF.at 0 rfl) rfl) rfl rfl rfl fun a hF=>?_
    by_cases hc2:n≤3000000
    ·first
     |(exfalso;omega)
     |(refine E.opvg hF (r_bin (hF.at 0 rfl) ev_c eg_scalar (bi_int (ic_leq (c:=true) (dec_tt hc2)) (by simp))) (wanted_by rfl rfl (hF.at 1 rfl) rfl) rfl rfl rfl fun a hF=>?_
       refine E.opv hF (r_pick_t (hF.at 2 rfl) (hF.at 0 rfl)) rfl rfl rfl rfl fun a hF=>?_
       refine E.opset (L':=[(2,.bool true),(8,.bool true),(7,.bool true),(6,.int .i64 n),(5,.bool true),(4,.bool true),(3,.int .i64 n),(0,.int .i64 n)]) hF (r_assign (hF.at 0 rfl)) rfl rfl rfl rfl fun a hF=>?_
       refine E.nil ?_
       refine wp_ret ?_
       have bel:=st.bel
       refine bodyPost_ret (res_tmp Try.results15 (hF.at 0 rfl)) hF.dfr ?_
       exact⟨rfl,bel⟩)
    ·first
     |(exfalso;omega)
     |(refine E.opvg hF (r_bin (hF.at 0 rfl) ev_c eg_scalar (bi_int (ic_leq (c:=false) (dec_ff hc2)) (by simp))) (wanted_by rfl rfl (hF.at 1 rfl) rfl) rfl rfl rfl fun a hF=>?_
       refine E.opv hF (r_pick_t (hF.at 2 rfl) (hF.at 0 rfl)) rfl rfl rfl rfl fun a hF=>?_
       refine E.opset (L':=[(2,.bool false),(8,.bool false),(7,.bool false),(6,.int .i64 n),(5,.bool true),(4,.bool true),(3,.int .i64 n),(0,.int .i64 n)]) hF (r_assign (hF.at 0 rfl)) rfl rfl rfl rfl fun a hF=>?_
       refine E.nil ?_
       refine wp_ret ?_
       have bel:=st.bel
       refine bodyPost_ret (res_tmp Try.results15 (hF.at 0 rfl)) hF.dfr ?_
       exfalso;omega))
 ·first
  |(exfalso;omega)
  |(refine E.opv hF (r_bin (hF.at 0 rfl) ev_c eg_scalar (bi_int (ic_geq (c:=false) (dec_ff hc1)) (by simp))) rfl rfl rfl rfl fun a hF=>?_
    refine E.opv hF (r_move (hF.at 0 rfl)) rfl rfl rfl rfl fun a hF=>?_
    refine E.unwanted hF (wanted_by rfl rfl (hF.at 0 rfl) rfl) rfl rfl rfl fun a hF=>?_
    refine E.unwanted hF (wanted_by rfl rfl (hF.at 1 rfl) rfl) rfl rfl rfl fun a hF=>?_
    refine E.opv hF (r_pick_f (hF.at 2 rfl) ev_c) rfl rfl rfl rfl fun a hF=>?_
    refine E.opset (L':=[(2,.bool false),(8,.bool false),(7,undef),(6,undef),(5,.bool false),(4,.bool false),(3,.int .i64 n),(0,.int .i64 n)]) hF (r_assign (hF.at 0 rfl)) rfl rfl rfl rfl fun a hF=>?_
    refine E.nil ?_
    refine wp_ret ?_
    have bel:=st.bel
    refine bodyPost_ret (res_tmp Try.results15 (hF.at 0 rfl)) hF.dfr ?_
    exfalso;omega)
theorem osInX_any (n:Int) (w:World) (hx:¬(-3000000≤n∧n≤3000000)):
 Calls Try.prog 15 #[.int .i64 n] w (ValPost w (.bool false)):=by
 have st:=St.start w
 refine E.enter (nt:=9) (L:=[(0,.int .i64 n)]) Try.func15 rfl rfl rfl (args_cons (i:=0) rfl args_nil) ?_
 intro a hF
 refine wp_seq ?_
 refine E.seq ?_
 refine E.opv hF (r_assign ev_c) rfl rfl rfl rfl fun a hF=>?_
 refine E.nil ?_
 refine wp_seq ?_
 refine E.seq ?_
 refine E.opv hF (r_move (hF.at 1 rfl)) rfl rfl rfl rfl fun a hF=>?_
 by_cases hc1:(-3000000)≤n
 ·first
  |(exfalso;omega)
  |(refine E.opv hF (r_bin (hF.at 0 rfl) ev_c eg_scalar (bi_int (ic_geq (c:=true) (dec_tt hc1)) (by simp))) rfl rfl rfl rfl fun a hF=>?_
    refine E.opv hF (r_move (hF.at 0 rfl)) rfl rfl rfl rfl fun a hF=>?_
    refine E.opvg hF (r_move (hF.at 4 rfl)) (wanted_by rfl rfl (hF.at 0 rfl) rfl) rfl rfl rfl fun a hF=>?_
    by_cases hc2:n≤3000000
    ·first
     |(exfalso;omega)
     |(refine E.opvg hF (r_bin (hF.at 0 rfl) ev_c eg_scalar (bi_int (ic_leq (c:=true) (dec_tt hc2)) (by simp))) (wanted_by rfl rfl (hF.at 1 rfl) rfl) rfl rfl rfl fun a hF=>?_
       refine E.opv hF (r_pick_t (hF.at 2 rfl) (hF.at 0 rfl)) rfl rfl rfl rfl fun a hF=>?_
       refine E.opset (L':=[(2,.bool true),(8,.bool true),(7,.bool true),(6,.int .i64 n),(5,.bool true),(4,.bool true),(3,.int .i64 n),(0,.int .i64 n)]) hF (r_assign (hF.at 0 rfl)) rfl rfl rfl rfl fun a hF=>?_
       refine E.nil ?_
       refine wp_ret ?_
       have bel:=st.bel
       refine bodyPost_ret (res_tmp Try.results15 (hF.at 0 rfl)) hF.dfr ?_
       exfalso;omega)
    ·first
     |(exfalso;omega)
     |(refine E.opvg hF (r_bin (hF.at 0 rfl) ev_c eg_scalar (bi_int (ic_leq (c:=false) (dec_ff hc2)) (by simp))) (wanted_by rfl rfl (hF.at 1 rfl) rfl) rfl rfl rfl fun a hF=>?_
       refine E.opv hF (r_pick_t (hF.at 2 rfl) (hF.at 0 rfl)) rfl rfl rfl rfl fun a hF=>?_
       refine E.opset (L':=[(2,.bool false),(8,.bool false),(7,.bool false),(6,.int .i64 n),(5,.bool true),(4,.bool true),(3,.int .i64 n),(0,.int .i64 n)]) hF (r_assign (hF.at 0 rfl)) rfl rfl rfl rfl fun a hF=>?_
       refine E.nil ?_
       refine wp_ret ?_
       have bel:=st.bel
       refine bodyPost_ret (res_tmp Try.results15 (hF.at 0 rfl)) hF.dfr ?_
       exact⟨rfl,bel⟩))
 ·first
  |(exfalso;omega)
  |(refine E.opv hF (r_bin (hF.at 0 rfl) ev_c eg_scalar (bi_int (ic_geq (c:=false) (dec_ff hc1)) (by simp))) rfl rfl rfl rfl fun a hF=>?_
    refine E.opv hF (r_move (hF.at 0 rfl)) rfl rfl rfl rfl fun a hF=>?_
    refine E.unwanted hF (wanted_by rfl rfl (hF.at 0 rfl) rfl) rfl rfl rfl fun a hF=>?_
    refine E.unwanted hF (wanted_by rfl rfl (hF.at 1 rfl) rfl) rfl rfl rfl fun a hF=>?_
    refine E.opv hF (r_pick_f (hF.at 2 rfl) ev_c) rfl rfl rfl rfl fun a hF=>?_
    refine E.opset (L':=[(2,.bool false),(8,.bool false),(7,undef),(6,undef),(5,.bool false),(4,.bool false),(3,.int .i64 n),(0,.int .i64 n)]) hF (r_assign (hF.at 0 rfl)) rfl rfl rfl rfl fun a hF=>?_
    refine E.nil ?_
    refine wp_ret ?_
    have bel:=st.bel
    refine bodyPost_ret (res_tmp Try.results15 (hF.at 0 rfl)) hF.dfr ?_
    exact⟨rfl,bel⟩)
theorem osOf_any (n:Int) (w:World) (hn0: -3000000≤n) (hn1:n≤3000000):
 Calls Try.prog 14 #[.int .i64 n] w (ValPost w (.tuple #[.agg #[.int .i64 (osM n/12),.int .i64 (osM n%12+1),.int .i64 (osD n)],.int .i64 0])):=by
 have hob:=osM_in hn0 hn1
 have hod:=osD_bd n
 have st:=St.start w
 refine E.enter (nt:=30) (L:=[(0,.int .i64 n)]) Try.func14 rfl rfl rfl (args_cons (i:=0) rfl args_nil) ?_
 intro a hF
 refine wp_seq ?_
 refine E.seq ?_
 refine S.alloc st hF ty_OSD rfl rfl fun g2 w1 a st hF=>?_
 refine E.opv hF (r_assign ev_c) rfl rfl rfl rfl fun a hF=>?_
 refine E.nil ?_
 refine wp_seq ?_
 refine wp_seq ?_
 refine E.seq ?_
 refine E.opv hF (r_move (hF.at 2 rfl)) rfl rfl rfl rfl fun a hF=>?_
 refine S.callx st hF (r_call Try.func15 en15.1 en15.2 (map1 (hF.at 0 rfl))) (osIn_any n _ (by omega) (by omega)) rfl rfl rfl rfl fun w2 a st hF=>?_
 refine E.opv hF (r_un (hF.at 0 rfl) (bn_not _ false rfl)) rfl rfl rfl rfl fun a hF=>?_
 refine E.nil ?_
 refine wp_cond_false (hF.at 0 rfl) ?_
 refine wp_skip ?_
 refine E.norm ?_
 refine wp_seq ?_
 refine E.seq ?_
 refine E.opv hF (r_move (hF.at 5 rfl)) rfl rfl rfl rfl fun a hF=>?_
 refine S.call st hF (r_call Try.func18 en18.1 en18.2 (map1 (hF.at 0 rfl))) (osSun_any n _ (by omega) (by omega)) (fun _ _ h=>h) Rq.cl rfl rfl rfl rfl fun vv4 w3 a st hF=>?_
 obtain⟨b6,ad6,n6,c6,ae6,m6,d6,rfl⟩:=Rq.form (st.f 0 rfl)
 refine S.new st hF 0 rfl ty_Rat rfl rfl rfl rfl rfl fun g4 w7 a st hF=>?_
 refine E.nil ?_
 refine wp_seq ?_
 refine E.drawn 6 mixed hF [12,13,14,15,16,5] [(fun _ v=>v= .agg #[.bool b6,.slice ad6 n6 c6,.slice ae6 m6 d6]),(fun w v=>Rq w v (msR)),(fun w v=>Rq w v ((suR n)/(msR))),(fun w v=>Rq w v (((12:Int):Rat))),(fun w v=>Rq w v (rmod ((suR n)/(msR)) (((12:Int):Rat)))),(fun w v=>∃g,v= .pointer (some ⟨g,0,none⟩)∧w7.heap.size≤g∧Own w g [.bool false,.slice none 0 0,.slice none 0 0])] [5] (by decide+kernel) (by decide+kernel) rfl rfl rfl ⟨(Mb.eq _),(fun _ _ _ h hb=>h.below hb),(fun _ _ _ h hb=>h.below hb),(fun _ _ _ h hb=>h.below hb),(fun _ _ _ h hb=>h.below hb),(fun _ _ _ ⟨g,e,l,o⟩ hb=>⟨g,e,l,o.below hb⟩),trivial⟩ ⟨fun _ _ ⟨g,e,_,o⟩=>⟨g,e,o.lt⟩,trivial⟩ ⟨?_,?_,?_,?_,?_,?_,trivial⟩ ?_
 ·intro a' w' hF' hb hd
  exact dv0 (r_load (hF'.at 0 rfl) (ld_all ty_Rat ((st.bk 0 rfl).below hb) rfl)) rfl rfl rfl
 ·intro a' w' hF' hb hd
  exact dc0 (r_call Try.func36 en36.1 en36.2 map0) (osMonth_any _) rfl rfl
 ·intro a' w' hF' hb hd
  have e12:=sHe hd 0 12 rfl rfl rfl rfl
  obtain⟨v13_0,e13,h13_1⟩:=sH hd 1 13 rfl rfl rfl rfl
  exact dc0 (r_call Try.func39 en39.1 en39.2 (map2 e12 e13)) (rDiv_any _ _ (suR n) (msR) (max 8 2) _ ((st.f 0 rfl).below hb) h13_1 ((suR_lim (n:=n) (by omega) (by omega)).up _ (by omega)) (msR_lim.up _ (by omega)) (by omega)) rfl rfl
 ·intro a' w' hF' hb hd
  exact dc0 (r_call Try.func40 en40.1 en40.2 (map1 ev_c)) (rWhole_any (12) _ (by decide) (by decide)) rfl rfl
 ·intro a' w' hF' hb hd
  obtain⟨v14_0,e14,h14_1⟩:=sH hd 0 14 rfl rfl rfl rfl
  obtain⟨v15_0,e15,h15_1⟩:=sH hd 1 15 rfl rfl rfl rfl
  exact dc0 (r_call Try.func38 en38.1 en38.2 (map2 e14 e15)) (cMod_any _ _ _ _ (8+2) 2 _ h14_1 h15_1 (rlim_div (suR_lim (n:=n) (by omega) (by omega)) msR_lim) (rlim_int (limz_64 (by decide) (by decide)) (by omega)) (by omega) (by omega)) rfl rfl
 ·intro a' w' hF' hb hd
  exact da0 ty_Rat rfl hb.size rfl
 intro a w8 hF bb hall hne
 have s0:=st
 replace st:=st.to bb
 obtain⟨vv9,e16,hh10⟩:=sS hall 4 16 rfl rfl
 replace st:=st.add hh10 (Rq.cl _)
 clear hh10
 obtain⟨_,e5,g5,rfl,ge5,o5⟩:=sS hall 5 5 rfl rfl
 replace st:=st.push o5.blk (Nat.le_trans s0.bel.size ge5) (s0.ne ge5)
 clear o5
 clear hall hne bb s0
 obtain⟨b11,ad11,n11,c11,ae11,m11,d11,rfl⟩:=Rq.form (st.f 0 rfl)
 replace hF:=hF.add e16
 clear e16
 replace hF:=hF.add e5
 clear e5
 refine S.sto st hF 0 rfl (hF.at 0 rfl) (hF.at 1 rfl) ty_Rat rfl rfl rfl rfl fun w12 a st hF=>?_
 refine E.nil ?_
 refine wp_seq ?_
 refine E.drawn 13 mixed hF [17,18,19,20,21,22,23,24,25,26,27,28,29] [(fun _ v=>v= .agg #[.bool b6,.slice ad6 n6 c6,.slice ae6 m6 d6]),(fun w v=>Rq w v (ysR)),(fun w v=>Rq w v ((suR n)/(ysR))),(fun _ v=>v= .int .i64 (osM n/12)),(fun _ v=>v= .agg #[.bool b11,.slice ad11 n11 c11,.slice ae11 m11 d11]),(fun _ v=>v= .int .i64 (osM n%12)),(fun _ v=>v= .int .i64 ((osM n%12)+1)),(fun _ v=>v= .agg #[.bool b6,.slice ad6 n6 c6,.slice ae6 m6 d6]),(fun w v=>Rq w v (msR)),(fun w v=>Rq w v (rmod (suR n) (msR))),(fun _ v=>v= .int .i64 (osD n-1)),(fun _ v=>v= .int .i64 ((osD n-1)+1)),(fun _ v=>v= .agg #[.int .i64 (osM n/12),.int .i64 ((osM n%12)+1),.int .i64 ((osD n-1)+1)])] [] (by decide+kernel) (by decide+kernel) rfl rfl rfl ⟨(Mb.eq _),(fun _ _ _ h hb=>h.below hb),(fun _ _ _ h hb=>h.below hb),(Mb.eq _),(Mb.eq _),(Mb.eq _),(Mb.eq _),(Mb.eq _),(fun _ _ _ h hb=>h.below hb),(fun _ _ _ h hb=>h.below hb),(Mb.eq _),(Mb.eq _),(Mb.eq _),trivial⟩ trivial ⟨?_,?_,?_,?_,?_,?_,?_,?_,?_,?_,?_,?_,?_,trivial⟩ ?_
 ·intro a' w' hF' hb hd
  exact dv0 (r_load (hF'.at 2 rfl) (ld_all ty_Rat ((st.bk 1 rfl).below hb) rfl)) rfl rfl rfl
 ·intro a' w' hF' hb hd
  exact dc0 (r_call Try.func37 en37.1 en37.2 map0) (osYear_any _) rfl rfl
 ·intro a' w' hF' hb hd
  have e17:=sHe hd 0 17 rfl rfl rfl rfl
  obtain⟨v18_0,e18,h18_1⟩:=sH hd 1 18 rfl rfl rfl rfl
  exact dc0 (r_call Try.func39 en39.1 en39.2 (map2 e17 e18)) (rDiv_any _ _ (suR n) (ysR) (max 8 2) _ ((st.f 1 rfl).below hb) h18_1 ((suR_lim (n:=n) (by omega) (by omega)).up _ (by omega)) (ysR_lim.up _ (by omega)) (by omega)) rfl rfl
 ·intro a' w' hF' hb hd
  obtain⟨v19_0,e19,h19_1⟩:=sH hd 0 19 rfl rfl rfl rfl
  exact dcx0 (r_call Try.func41 en41.1 en41.2 (map1 e19)) (osflo_any _ _ (8+2) (osM n/12) _ h19_1 (rlim_div (suR_lim (n:=n) (by omega) (by omega)) ysR_lim) (by omega) (su_ys n) (by omega) (by omega)) (fun _=>rfl) rfl rfl
 ·intro a' w' hF' hb hd
  exact dv0 (r_load (hF'.at 0 rfl) (ld_all ty_Rat ((st.bk 0 rfl).below hb) rfl)) rfl rfl rfl
 ·intro a' w' hF' hb hd
  have e21:=sHe hd 0 21 rfl rfl rfl rfl
  exact dcx0 (r_call Try.func41 en41.1 en41.2 (map1 e21)) (osflo_any _ _ ((8+2)+(8+2)+2+2+3) (osM n%12) _ ((st.f 0 rfl).below hb) (rmod_lim (k:=(8+2)) (j:=2) (rlim_div (suR_lim (n:=n) (by omega) (by omega)) msR_lim) (rlim_int (limz_64 (by decide) (by decide)) (by omega))) (by omega) (su_md n) (by omega) (by omega)) (fun _=>rfl) rfl rfl
 ·intro a' w' hF' hb hd
  have e22:=sHe hd 0 22 rfl rfl rfl rfl
  exact dv0 (r_bin e22 ev_c eg_scalar (ia_add (by omega) (by omega))) rfl rfl rfl
 ·intro a' w' hF' hb hd
  exact dv0 (r_load (hF'.at 2 rfl) (ld_all ty_Rat ((st.bk 1 rfl).below hb) rfl)) rfl rfl rfl
 ·intro a' w' hF' hb hd
  exact dc0 (r_call Try.func36 en36.1 en36.2 map0) (osMonth_any _) rfl rfl
 ·intro a' w' hF' hb hd
  have e24:=sHe hd 0 24 rfl rfl rfl rfl
  obtain⟨v25_0,e25,h25_1⟩:=sH hd 1 25 rfl rfl rfl rfl
  exact dc0 (r_call Try.func38 en38.1 en38.2 (map2 e24 e25)) (cMod_any _ _ (suR n) (msR) 8 2 _ ((st.f 1 rfl).below hb) h25_1 (suR_lim (n:=n) (by omega) (by omega)) msR_lim (by omega) (by omega)) rfl rfl
 ·intro a' w' hF' hb hd
  obtain⟨v26_0,e26,h26_1⟩:=sH hd 0 26 rfl rfl rfl rfl
  exact dcx0 (r_call Try.func41 en41.1 en41.2 (map1 e26)) (osflo_any _ _ (8+8+2+2+3) (osD n-1) _ h26_1 (rmod_lim (k:=8) (j:=2) (suR_lim (n:=n) (by omega) (by omega)) msR_lim) (by omega) (su_day n) (by omega) (by omega)) (fun _=>rfl) rfl rfl
 ·intro a' w' hF' hb hd
  have e27:=sHe hd 0 27 rfl rfl rfl rfl
  exact dv0 (r_bin e27 ev_c eg_scalar (ia_add (by omega) (by omega))) rfl rfl rfl
 ·intro a' w' hF' hb hd
  have e20:=sHe hd 0 20 rfl rfl rfl rfl
  have e23:=sHe hd 1 23 rfl rfl rfl rfl
  have e28:=sHe hd 2 28 rfl rfl rfl rfl
  exact dv0 (r_build (pair3 e20 e23 e28) (bd_OSD_012 _ _ _ _)) rfl rfl rfl
 intro a w13 hF bb hall hne
 replace st:=st.to bb
 have e29:=sSe hall 12 29 rfl rfl
 clear hall hne bb
 replace hF:=hF.add e29
 clear e29
 refine S.stoI st hF 2 rfl (hF.at 10 rfl) (hF.at 0 rfl) ty_OSD rfl rfl rfl fun w14 a st hF=>?_
 refine E.opset (L':=[(3,.int .i64 0),(29,.agg #[.int .i64 (osM n/12),.int .i64 ((osM n%12)+1),.int .i64 ((osD n-1)+1)]),(5,.pointer (some ⟨g5,0,none⟩)),(16,.agg #[.bool b11,.slice ad11 n11 c11,.slice ae11 m11 d11]),(4,.pointer (some ⟨g4,0,none⟩)),(11,.agg #[.bool b6,.slice ad6 n6 c6,.slice ae6 m6 d6]),(10,.int .i64 n),(8,.bool false),(7,.bool true),(6,.int .i64 n),(2,.pointer (some ⟨g2,0,none⟩)),(0,.int .i64 n)]) hF (r_assign ev_c) rfl rfl rfl rfl fun a hF=>?_
 refine E.nil ?_
 refine wp_ret ?_
 have bel:=st.bel
 refine bodyPost_ret (res_celltmp Try.results14 (hF.at 10 rfl) (ld_all ty_OSD (st.bk 2 rfl) rfl) (hF.at 0 rfl)) hF.dfr ?_
 refine⟨?_,bel⟩
 rw[show osD n-1+1=osD n by omega]
theorem osOfX_any (n:Int) (w:World) (hx:¬(-3000000≤n∧n≤3000000)):
 Calls Try.prog 14 #[.int .i64 n] w (ValPost w (.tuple #[.agg #[.int .i64 0,.int .i64 0,.int .i64 0],.int .i64 2])):=by
 have st:=St.start w
 refine E.enter (nt:=30) (L:=[(0,.int .i64 n)]) Try.func14 rfl rfl rfl (args_cons (i:=0) rfl args_nil) ?_
 intro a hF
 refine wp_seq ?_
 refine E.seq ?_
 refine S.alloc st hF ty_OSD rfl rfl fun g2 w1 a st hF=>?_
 refine E.opv hF (r_assign ev_c) rfl rfl rfl rfl fun a hF=>?_
 refine E.nil ?_
 refine wp_seq ?_
 refine wp_seq ?_
 refine E.seq ?_
 refine E.opv hF (r_move (hF.at 2 rfl)) rfl rfl rfl rfl fun a hF=>?_
 refine S.callx st hF (r_call Try.func15 en15.1 en15.2 (map1 (hF.at 0 rfl))) (osInX_any n _ (by omega)) rfl rfl rfl rfl fun w2 a st hF=>?_
 refine E.opv hF (r_un (hF.at 0 rfl) (bn_not _ true rfl)) rfl rfl rfl rfl fun a hF=>?_
 refine E.nil ?_
 refine wp_cond_true (hF.at 0 rfl) ?_
 refine wp_seq ?_
 refine E.seq ?_
 refine E.opv hF (r_build (by simp) (bd_OSD_ _)) rfl rfl rfl rfl fun a hF=>?_
 refine S.stoI st hF 0 rfl (hF.at 5 rfl) (hF.at 0 rfl) ty_OSD rfl rfl rfl fun w3 a st hF=>?_
 refine E.opset (L':=[(3,.int .i64 2),(9,.agg #[.int .i64 0,.int .i64 0,.int .i64 0]),(8,.bool true),(7,.bool false),(6,.int .i64 n),(2,.pointer (some ⟨g2,0,none⟩)),(0,.int .i64 n)]) hF (r_assign ev_c) rfl rfl rfl rfl fun a hF=>?_
 refine E.nil ?_
 refine wp_ret ?_
 have bel:=st.bel
 refine bodyPost_ret (res_celltmp Try.results14 (hF.at 5 rfl) (ld_all ty_OSD (st.bk 0 rfl) rfl) (hF.at 0 rfl)) hF.dfr ?_
 exact⟨rfl,bel⟩
theorem osFirst_any (y m d:Int) (w:World) (hy0: -20000≤y) (hy1:y≤20000) (hm0:1≤m) (hm1:m≤12) (hd0:1≤d) (hd1:d≤31):
 Calls Try.prog 42 #[.agg #[.int .i64 y,.int .i64 m,.int .i64 d]] w (ValPost w (.int .i64 (osX y m d))):=by
 have hxb:=osX_bd hy0 hy1 hm0 hm1 hd0 hd1
 have st:=St.start w
 refine E.enter (nt:=33) (L:=[(0,.agg #[.int .i64 y,.int .i64 m,.int .i64 d])]) Try.func42 rfl rfl rfl (args_cons (i:=0) rfl args_nil) ?_
 intro a hF
 refine wp_seq ?_
 refine E.seq ?_
 refine S.box st hF (hF.at 0 rfl) rfl rfl fun g1 w1 a st hF=>?_
 refine E.opv hF (r_assign ev_c) rfl rfl rfl rfl fun a hF=>?_
 refine E.nil ?_
 refine wp_seq ?_
 refine E.drawn 11 mixed hF [7,8,9,10,11,12,13,14,15,16,3] [(fun w v=>Rq w v (msR)),(fun _ v=>v= .pointer (some ⟨g1,0,none⟩)),(fun _ v=>v= .int .i64 y),(fun _ v=>v= .int .i64 (12*y)),(fun _ v=>v= .pointer (some ⟨g1,1,none⟩)),(fun _ v=>v= .int .i64 m),(fun _ v=>v= .int .i64 (m-1)),(fun _ v=>v= .int .i64 ((12*y)+(m-1))),(fun w v=>Rq w v ((((12*y)+(m-1):Int):Rat))),(fun w v=>Rq w v ((msR)*((((12*y)+(m-1):Int):Rat)))),(fun w v=>∃g,v= .pointer (some ⟨g,0,none⟩)∧w1.heap.size≤g∧Own w g [.bool false,.slice none 0 0,.slice none 0 0])] [10] (by decide+kernel) (by decide+kernel) rfl rfl rfl ⟨(fun _ _ _ h hb=>h.below hb),(Mb.eq _),(Mb.eq _),(Mb.eq _),(Mb.eq _),(Mb.eq _),(Mb.eq _),(Mb.eq _),(fun _ _ _ h hb=>h.below hb),(fun _ _ _ h hb=>h.below hb),(fun _ _ _ ⟨g,e,l,o⟩ hb=>⟨g,e,l,o.below hb⟩),trivial⟩ ⟨fun _ _ ⟨g,e,_,o⟩=>⟨g,e,o.lt⟩,trivial⟩ ⟨?_,?_,?_,?_,?_,?_,?_,?_,?_,?_,?_,trivial⟩ ?_
 ·intro a' w' hF' hb hd
  exact dc0 (r_call Try.func36 en36.1 en36.2 map0) (osMonth_any _) rfl rfl
 ·intro a' w' hF' hb hd
  exact dv0 (r_field (hF'.at 1 rfl) (fa_OSD_0 (p:=0) rfl)) rfl rfl rfl
 ·intro a' w' hF' hb hd
  have e8:=sHe hd 0 8 rfl rfl rfl rfl
  exact dv0 (r_load e8 (ldb_i64 (v:= .int .i64 y) ((st.bk 0 rfl).below hb) rfl)) rfl rfl rfl
 ·intro a' w' hF' hb hd
  have e9:=sHe hd 0 9 rfl rfl rfl rfl
  exact dv0 (r_bin ev_c e9 eg_scalar (ia_mul (by omega) (by omega))) rfl rfl rfl
 ·intro a' w' hF' hb hd
  exact dv0 (r_field (hF'.at 1 rfl) (fa_OSD_1 (p:=1) rfl)) rfl rfl rfl
 ·intro a' w' hF' hb hd
  have e11:=sHe hd 0 11 rfl rfl rfl rfl
  exact dv0 (r_load e11 (ldb_int (v:= .int .i64 m) ((st.bk 0 rfl).below hb) rfl)) rfl rfl rfl
 ·intro a' w' hF' hb hd
  have e12:=sHe hd 0 12 rfl rfl rfl rfl
  exact dv0 (r_bin e12 ev_c eg_scalar (ia_sub (by omega) (by omega))) rfl rfl rfl
 ·intro a' w' hF' hb hd
  have e10:=sHe hd 0 10 rfl rfl rfl rfl
  have e13:=sHe hd 1 13 rfl rfl rfl rfl
  exact dv0 (r_bin e10 e13 eg_scalar (ia_add (by omega) (by omega))) rfl rfl rfl
 ·intro a' w' hF' hb hd
  have e14:=sHe hd 0 14 rfl rfl rfl rfl
  exact dc0 (r_call Try.func40 en40.1 en40.2 (map1 e14)) (rWhole_any ((12*y)+(m-1)) _ (by omega) (by omega)) rfl rfl
 ·intro a' w' hF' hb hd
  obtain⟨v7_0,e7,h7_1⟩:=sH hd 0 7 rfl rfl rfl rfl
  obtain⟨v15_0,e15,h15_1⟩:=sH hd 1 15 rfl rfl rfl rfl
  exact dc0 (r_call Try.func51 en51.1 en51.2 (map2 e7 e15)) (rMul_any _ _ (msR) _ 2 _ h7_1 h15_1 (msR_lim.up _ (by omega)) ((rlim_int (limz_64 (by omega) (by omega)) (by omega)).up _ (by omega)) (by omega)) rfl rfl
 ·intro a' w' hF' hb hd
  exact da0 ty_Rat rfl hb.size rfl
 intro a w2 hF bb hall hne
 have s0:=st
 replace st:=st.to bb
 obtain⟨vv3,e16,hh4⟩:=sS hall 9 16 rfl rfl
 replace st:=st.add hh4 (Rq.cl _)
 clear hh4
 obtain⟨_,e3,g3,rfl,ge3,o3⟩:=sS hall 10 3 rfl rfl
 replace st:=st.push o3.blk (Nat.le_trans s0.bel.size ge3) (s0.ne ge3)
 clear o3
 clear hall hne bb s0
 obtain⟨b5,ad5,n5,c5,ae5,m5,d5,rfl⟩:=Rq.form (st.f 0 rfl)
 replace hF:=hF.add e16
 clear e16
 replace hF:=hF.add e3
 clear e3
 refine S.sto st hF 0 rfl (hF.at 0 rfl) (hF.at 1 rfl) ty_Rat rfl rfl rfl rfl fun w6 a st hF=>?_
 refine E.nil ?_
 refine wp_seq ?_
 refine E.drawn 7 mixed hF [17,18,19,20,21,22,4] [(fun _ v=>v= .agg #[.bool b5,.slice ad5 n5 c5,.slice ae5 m5 d5]),(fun _ v=>v= .pointer (some ⟨g1,2,none⟩)),(fun _ v=>v= .int .i64 d),(fun _ v=>v= .int .i64 (d-1)),(fun w v=>Rq w v (((d-1:Int):Rat))),(fun w v=>Rq w v (((msR)*((((12*y)+(m-1):Int):Rat)))+(((d-1:Int):Rat)))),(fun w v=>∃g,v= .pointer (some ⟨g,0,none⟩)∧w6.heap.size≤g∧Own w g [.bool false,.slice none 0 0,.slice none 0 0])] [6] (by decide+kernel) (by decide+kernel) rfl rfl rfl ⟨(Mb.eq _),(Mb.eq _),(Mb.eq _),(Mb.eq _),(fun _ _ _ h hb=>h.below hb),(fun _ _ _ h hb=>h.below hb),(fun _ _ _ ⟨g,e,l,o⟩ hb=>⟨g,e,l,o.below hb⟩),trivial⟩ ⟨fun _ _ ⟨g,e,_,o⟩=>⟨g,e,o.lt⟩,trivial⟩ ⟨?_,?_,?_,?_,?_,?_,?_,trivial⟩ ?_
 ·intro a' w' hF' hb hd
  exact dv0 (r_load (hF'.at 0 rfl) (ld_all ty_Rat ((st.bk 0 rfl).below hb) rfl)) rfl rfl rfl
 ·intro a' w' hF' hb hd
  exact dv0 (r_field (hF'.at 3 rfl) (fa_OSD_2 (p:=2) rfl)) rfl rfl rfl
 ·intro a' w' hF' hb hd
  have e18:=sHe hd 0 18 rfl rfl rfl rfl
  exact dv0 (r_load e18 (ldb_int (v:= .int .i64 d) ((st.bk 1 rfl).below hb) rfl)) rfl rfl rfl
 ·intro a' w' hF' hb hd
  have e19:=sHe hd 0 19 rfl rfl rfl rfl
  exact dv0 (r_bin e19 ev_c eg_scalar (ia_sub (by omega) (by omega))) rfl rfl rfl
 ·intro a' w' hF' hb hd
  have e20:=sHe hd 0 20 rfl rfl rfl rfl
  exact dc0 (r_call Try.func40 en40.1 en40.2 (map1 e20)) (rWhole_any (d-1) _ (by omega) (by omega)) rfl rfl
 ·intro a' w' hF' hb hd
  have e17:=sHe hd 0 17 rfl rfl rfl rfl
  obtain⟨v21_0,e21,h21_1⟩:=sH hd 1 21 rfl rfl rfl rfl
  exact dc0 (r_call Try.func44 en44.1 en44.2 (map2 e17 e21)) (rAdd_any _ _ _ _ (max (2+2) 2) _ ((st.f 0 rfl).below hb) h21_1 ((rlim_mul msR_lim (rlim_int (limz_64 (by omega) (by omega)) (by omega))).up _ (by omega)) ((rlim_int (limz_64 (by omega) (by omega)) (by omega)).up _ (by omega)) (by omega)) rfl rfl
 ·intro a' w' hF' hb hd
  exact da0 ty_Rat rfl hb.size rfl
 intro a w7 hF bb hall hne
 have s0:=st
 replace st:=st.to bb
 obtain⟨vv8,e22,hh9⟩:=sS hall 5 22 rfl rfl
 replace st:=st.add hh9 (Rq.cl _)
 clear hh9
 obtain⟨_,e4,g4,rfl,ge4,o4⟩:=sS hall 6 4 rfl rfl
 replace st:=st.push o4.blk (Nat.le_trans s0.bel.size ge4) (s0.ne ge4)
 clear o4
 clear hall hne bb s0
 obtain⟨b10,ad10,n10,c10,ae10,m10,d10,rfl⟩:=Rq.form (st.f 0 rfl)
 replace hF:=hF.add e22
 clear e22
 replace hF:=hF.add e4
 clear e4
 refine S.sto st hF 0 rfl (hF.at 0 rfl) (hF.at 1 rfl) ty_Rat rfl rfl rfl rfl fun w11 a st hF=>?_
 refine E.nil ?_
 refine wp_seq ?_
 refine E.drawn 10 mixed hF [24,25,26,27,28,23,29,30,5,6] [(fun _ v=>v= .agg #[.bool b10,.slice ad10 n10 c10,.slice ae10 m10 d10]),(fun w v=>Rq w v (qrR)),(fun w v=>Rq w v ((((msR)*((((12*y)+(m-1):Int):Rat)))+(((d-1:Int):Rat)))-(qrR))),(fun w v=>Wc w v (Rat.ceil ((((msR)*((((12*y)+(m-1):Int):Rat)))+(((d-1:Int):Rat)))-(qrR)))),(fun _ v=>v= .tuple #[.int .i64 (osX y m d+1132959),.bool true]),(fun _ v=>v= .tuple #[.int .i64 (osX y m d+1132959),.bool true]),(fun _ v=>v= .int .i64 (osX y m d+1132959)),(fun _ v=>v= .bool true),(fun _ v=>v= .int .i64 (osX y m d+1132959)),(fun _ v=>v= .bool true)] [] (by decide+kernel) (by decide+kernel) rfl rfl rfl ⟨(Mb.eq _),(fun _ _ _ h hb=>h.below hb),(fun _ _ _ h hb=>h.below hb),(fun _ _ _ h hb=>h.below hb),(Mb.eq _),(Mb.eq _),(Mb.eq _),(Mb.eq _),(Mb.eq _),(Mb.eq _),trivial⟩ trivial ⟨?_,?_,?_,?_,?_,?_,?_,?_,?_,?_,trivial⟩ ?_
 ·intro a' w' hF' hb hd
  exact dv0 (r_load (hF'.at 0 rfl) (ld_all ty_Rat ((st.bk 0 rfl).below hb) rfl)) rfl rfl rfl
 ·intro a' w' hF' hb hd
  exact dc0 (r_call Try.func45 en45.1 en45.2 map0) (osRise_any _) rfl rfl
 ·intro a' w' hF' hb hd
  have e24:=sHe hd 0 24 rfl rfl rfl rfl
  obtain⟨v25_0,e25,h25_1⟩:=sH hd 1 25 rfl rfl rfl rfl
  exact dc0 (r_call Try.func43 en43.1 en43.2 (map2 e24 e25)) (rSub_any _ _ _ (qrR) (max ((2+2)+2+1) 2) _ ((st.f 0 rfl).below hb) h25_1 ((rlim_add (rlim_mul msR_lim (rlim_int (limz_64 (by omega) (by omega)) (by omega))) (rlim_int (limz_64 (by omega) (by omega)) (by omega))).up _ (by omega)) (qrR_lim.up _ (by omega)) (by omega)) rfl rfl
 ·intro a' w' hF' hb hd
  obtain⟨v26_0,e26,h26_1⟩:=sH hd 0 26 rfl rfl rfl rfl
  exact dc0 (r_call Try.func57 en57.1 en57.2 (map1 e26)) (cCeil_any _ _ (((2+2)+2+1)+2+1) _ h26_1 (rlim_sub (rlim_add (rlim_mul msR_lim (rlim_int (limz_64 (by omega) (by omega)) (by omega))) (rlim_int (limz_64 (by omega) (by omega)) (by omega))) qrR_lim) (by omega)) rfl rfl
 ·intro a' w' hF' hb hd
  obtain⟨v27_0,e27,h27_1⟩:=sH hd 0 27 rfl rfl rfl rfl
  exact dcx0 (r_call Try.func58 en58.1 en58.2 (map1 e27)) (small_is _ (Rat.ceil ((((msR)*((((12*y)+(m-1):Int):Rat)))+(((d-1:Int):Rat)))-(qrR))) (osX y m d+1132959) _ (Wc.wz h27_1) (os_ceil (12*y+(m-1)) d) (by omega) (by omega)) (fun _=>rfl) rfl rfl
 ·intro a' w' hF' hb hd
  have e28:=sHe hd 0 28 rfl rfl rfl rfl
  exact dv0 (r_move e28) rfl rfl rfl
 ·intro a' w' hF' hb hd
  have e23:=sHe hd 0 23 rfl rfl rfl rfl
  exact dv0 (r_extract (v:= .int .i64 (osX y m d+1132959)) e23 rfl) rfl rfl rfl
 ·intro a' w' hF' hb hd
  have e23:=sHe hd 0 23 rfl rfl rfl rfl
  exact dv0 (r_extract (v:= .bool true) e23 rfl) rfl rfl rfl
 ·intro a' w' hF' hb hd
  have e29:=sHe hd 0 29 rfl rfl rfl rfl
  exact dv0 (r_assign e29) rfl rfl rfl
 ·intro a' w' hF' hb hd
  have e30:=sHe hd 0 30 rfl rfl rfl rfl
  exact dv0 (r_assign e30) rfl rfl rfl
 intro a w12 hF bb hall hne
 replace st:=st.to bb
 have e5:=sSe hall 8 5 rfl rfl
 clear hall hne bb
 replace hF:=hF.add e5
 clear e5
 refine E.nil ?_
 refine wp_seq ?_
 refine E.seq ?_
 refine E.opv hF (r_move (hF.at 0 rfl)) rfl rfl rfl rfl fun a hF=>?_
 refine E.opv hF (r_bin ev_c (hF.at 0 rfl) eg_scalar (ia_add (by omega) (by omega))) rfl rfl rfl rfl fun a hF=>?_
 refine E.opset (L':=[(2,.int .i64 ((-1132959)+(osX y m d+1132959))),(32,.int .i64 ((-1132959)+(osX y m d+1132959))),(31,.int .i64 (osX y m d+1132959)),(5,.int .i64 (osX y m d+1132959)),(4,.pointer (some ⟨g4,0,none⟩)),(22,.agg #[.bool b10,.slice ad10 n10 c10,.slice ae10 m10 d10]),(3,.pointer (some ⟨g3,0,none⟩)),(16,.agg #[.bool b5,.slice ad5 n5 c5,.slice ae5 m5 d5]),(1,.pointer (some ⟨g1,0,none⟩)),(0,.agg #[.int .i64 y,.int .i64 m,.int .i64 d])]) hF (r_assign (hF.at 0 rfl)) rfl rfl rfl rfl fun a hF=>?_
 refine E.nil ?_
 refine wp_ret ?_
 have bel:=st.bel
 refine bodyPost_ret (res_tmp Try.results42 (hF.at 0 rfl)) hF.dfr ?_
 refine⟨rv_int ?_,bel⟩
 omega
theorem osFixed_any (y m d:Int) (w:World):
 Calls Try.prog 17 #[.agg #[.int .i64 y,.int .i64 m,.int .i64 d]] w (ValPost w (.tuple #[.int .i64 (osN y m d),.int .i64 (osE y m d)])):=by
 have st:=St.start w
 refine E.enter (nt:=51) (L:=[(0,.agg #[.int .i64 y,.int .i64 m,.int .i64 d])]) Try.func17 rfl rfl rfl (args_cons (i:=0) rfl args_nil) ?_
 intro a hF
 refine wp_seq ?_
 refine E.seq ?_
 refine S.box st hF (hF.at 0 rfl) rfl rfl fun g1 w1 a st hF=>?_
 refine E.opv hF (r_assign ev_c) rfl rfl rfl rfl fun a hF=>?_
 refine E.opv hF (r_assign ev_c) rfl rfl rfl rfl fun a hF=>?_
 refine E.nil ?_
 refine wp_seq ?_
 refine wp_block ?_
 refine wp_seq ?_
 refine E.seq ?_
 refine E.opv hF (r_field (hF.at 2 rfl) (fa_OSD_1 (p:=1) rfl)) rfl rfl rfl rfl fun a hF=>?_
 refine E.opv hF (r_load (hF.at 0 rfl) (ldb_int (v:= .int .i64 m) (st.bk 0 rfl) rfl)) rfl rfl rfl rfl fun a hF=>?_
 by_cases hc2:m<1
 ·first
  |(exfalso;omega)
  |(refine E.opv hF (r_bin (hF.at 0 rfl) ev_c eg_scalar (bi_int (ic_lss (c:=true) (dec_tt hc2)) (by simp))) rfl rfl rfl rfl fun a hF=>?_
    refine E.opv hF (r_move (hF.at 0 rfl)) rfl rfl rfl rfl fun a hF=>?_
    refine E.unwanted hF (wanted_by rfl rfl (hF.at 0 rfl) rfl) rfl rfl rfl fun a hF=>?_
    refine E.unwanted hF (wanted_by rfl rfl (hF.at 1 rfl) rfl) rfl rfl rfl fun a hF=>?_
    refine E.unwanted hF (wanted_by rfl rfl (hF.at 2 rfl) rfl) rfl rfl rfl fun a hF=>?_
    refine E.opv hF (r_pick_t (hF.at 3 rfl) ev_c) rfl rfl rfl rfl fun a hF=>?_
    refine E.opv hF (r_move (hF.at 0 rfl)) rfl rfl rfl rfl fun a hF=>?_
    refine E.unwanted hF (wanted_by rfl rfl (hF.at 0 rfl) rfl) rfl rfl rfl fun a hF=>?_
    refine E.unwanted hF (wanted_by rfl rfl (hF.at 1 rfl) rfl) rfl rfl rfl fun a hF=>?_
    refine E.unwanted hF (wanted_by rfl rfl (hF.at 2 rfl) rfl) rfl rfl rfl fun a hF=>?_
    refine E.opv hF (r_pick_t (hF.at 3 rfl) ev_c) rfl rfl rfl rfl fun a hF=>?_
    refine E.opv hF (r_move (hF.at 0 rfl)) rfl rfl rfl rfl fun a hF=>?_
    refine E.unwanted hF (wanted_by rfl rfl (hF.at 0 rfl) rfl) rfl rfl rfl fun a hF=>?_
    refine E.unwanted hF (wanted_by rfl rfl (hF.at 1 rfl) rfl) rfl rfl rfl fun a hF=>?_
    refine E.unwanted hF (wanted_by rfl rfl (hF.at 2 rfl) rfl) rfl rfl rfl fun a hF=>?_
    refine E.opv hF (r_pick_t (hF.at 3 rfl) ev_c) rfl rfl rfl rfl fun a hF=>?_
    refine E.opv hF (r_assign (hF.at 0 rfl)) rfl rfl rfl rfl fun a hF=>?_
    refine E.nil ?_
    refine wp_cond_true (hF.at 0 rfl) ?_
    refine wp_seq ?_
    refine E.seq ?_
    refine E.opset (L':=[(2,.int .i64 0),(7,.bool true),(25,.bool true),(24,undef),(23,undef),(22,undef),(21,.bool true),(20,.bool true),(19,undef),(18,undef),(17,undef),(16,.bool true),(15,.bool true),(14,undef),(13,undef),(12,undef),(11,.bool true),(10,.bool true),(9,.int .i64 m),(8,.pointer (some ⟨g1,1,none⟩)),(3,.int .i64 0),(1,.pointer (some ⟨g1,0,none⟩)),(0,.agg #[.int .i64 y,.int .i64 m,.int .i64 d])]) hF (r_assign ev_c) rfl rfl rfl rfl fun a hF=>?_
    refine E.opset (L':=[(3,.int .i64 4),(2,.int .i64 0),(7,.bool true),(25,.bool true),(24,undef),(23,undef),(22,undef),(21,.bool true),(20,.bool true),(19,undef),(18,undef),(17,undef),(16,.bool true),(15,.bool true),(14,undef),(13,undef),(12,undef),(11,.bool true),(10,.bool true),(9,.int .i64 m),(8,.pointer (some ⟨g1,1,none⟩)),(1,.pointer (some ⟨g1,0,none⟩)),(0,.agg #[.int .i64 y,.int .i64 m,.int .i64 d])]) hF (r_assign ev_c) rfl rfl rfl rfl fun a hF=>?_
    refine E.nil ?_
    refine wp_ret ?_
    have bel:=st.bel
    refine bodyPost_ret (res_tmp2 Try.results17 (hF.at 1 rfl) (hF.at 0 rfl)) hF.dfr ?_
    have hfx:=os_4 (y:=y) (m:=m) (d:=d) (by omega)
    exact⟨rv_int2 hfx.1 hfx.2,bel⟩)
 ·first
  |(exfalso;omega)
  |(refine E.opv hF (r_bin (hF.at 0 rfl) ev_c eg_scalar (bi_int (ic_lss (c:=false) (dec_ff hc2)) (by simp))) rfl rfl rfl rfl fun a hF=>?_
    refine E.opv hF (r_move (hF.at 0 rfl)) rfl rfl rfl rfl fun a hF=>?_
    refine E.opvg hF (r_field (hF.at 6 rfl) (fa_OSD_1 (p:=1) rfl)) (wanted_by rfl rfl (hF.at 0 rfl) rfl) rfl rfl rfl fun a hF=>?_
    refine E.opvg hF (r_load (hF.at 0 rfl) (ldb_int (v:= .int .i64 m) (st.bk 0 rfl) rfl)) (wanted_by rfl rfl (hF.at 1 rfl) rfl) rfl rfl rfl fun a hF=>?_
    by_cases hc3:12<m
    ·first
     |(exfalso;omega)
     |(refine E.opvg hF (r_bin (hF.at 0 rfl) ev_c eg_scalar (bi_int (ic_gtr (c:=true) (dec_tt hc3)) (by simp))) (wanted_by rfl rfl (hF.at 2 rfl) rfl) rfl rfl rfl fun a hF=>?_
       refine E.opv hF (r_pick_f (hF.at 3 rfl) (hF.at 0 rfl)) rfl rfl rfl rfl fun a hF=>?_
       refine E.opv hF (r_move (hF.at 0 rfl)) rfl rfl rfl rfl fun a hF=>?_
       refine E.unwanted hF (wanted_by rfl rfl (hF.at 0 rfl) rfl) rfl rfl rfl fun a hF=>?_
       refine E.unwanted hF (wanted_by rfl rfl (hF.at 1 rfl) rfl) rfl rfl rfl fun a hF=>?_
       refine E.unwanted hF (wanted_by rfl rfl (hF.at 2 rfl) rfl) rfl rfl rfl fun a hF=>?_
       refine E.opv hF (r_pick_t (hF.at 3 rfl) ev_c) rfl rfl rfl rfl fun a hF=>?_
       refine E.opv hF (r_move (hF.at 0 rfl)) rfl rfl rfl rfl fun a hF=>?_
       refine E.unwanted hF (wanted_by rfl rfl (hF.at 0 rfl) rfl) rfl rfl rfl fun a hF=>?_
       refine E.unwanted hF (wanted_by rfl rfl (hF.at 1 rfl) rfl) rfl rfl rfl fun a hF=>?_
       refine E.unwanted hF (wanted_by rfl rfl (hF.at 2 rfl) rfl) rfl rfl rfl fun a hF=>?_
       refine E.opv hF (r_pick_t (hF.at 3 rfl) ev_c) rfl rfl rfl rfl fun a hF=>?_
       refine E.opv hF (r_assign (hF.at 0 rfl)) rfl rfl rfl rfl fun a hF=>?_
       refine E.nil ?_
       refine wp_cond_true (hF.at 0 rfl) ?_
       refine wp_seq ?_
       refine E.seq ?_
       refine E.opset (L':=[(2,.int .i64 0),(7,.bool true),(25,.bool true),(24,undef),(23,undef),(22,undef),(21,.bool true),(20,.bool true),(19,undef),(18,undef),(17,undef),(16,.bool true),(15,.bool true),(14,.bool true),(13,.int .i64 m),(12,.pointer (some ⟨g1,1,none⟩)),(11,.bool false),(10,.bool false),(9,.int .i64 m),(8,.pointer (some ⟨g1,1,none⟩)),(3,.int .i64 0),(1,.pointer (some ⟨g1,0,none⟩)),(0,.agg #[.int .i64 y,.int .i64 m,.int .i64 d])]) hF (r_assign ev_c) rfl rfl rfl rfl fun a hF=>?_
       refine E.opset (L':=[(3,.int .i64 4),(2,.int .i64 0),(7,.bool true),(25,.bool true),(24,undef),(23,undef),(22,undef),(21,.bool true),(20,.bool true),(19,undef),(18,undef),(17,undef),(16,.bool true),(15,.bool true),(14,.bool true),(13,.int .i64 m),(12,.pointer (some ⟨g1,1,none⟩)),(11,.bool false),(10,.bool false),(9,.int .i64 m),(8,.pointer (some ⟨g1,1,none⟩)),(1,.pointer (some ⟨g1,0,none⟩)),(0,.agg #[.int .i64 y,.int .i64 m,.int .i64 d])]) hF (r_assign ev_c) rfl rfl rfl rfl fun a hF=>?_
       refine E.nil ?_
       refine wp_ret ?_
       have bel:=st.bel
       refine bodyPost_ret (res_tmp2 Try.results17 (hF.at 1 rfl) (hF.at 0 rfl)) hF.dfr ?_
       have hfx:=os_4 (y:=y) (m:=m) (d:=d) (by omega)
       exact⟨rv_int2 hfx.1 hfx.2,bel⟩)
    ·first
     |(exfalso;omega)
     |(refine E.opvg hF (r_bin (hF.at 0 rfl) ev_c eg_scalar (bi_int (ic_gtr (c:=false) (dec_ff hc3)) (by simp))) (wanted_by rfl rfl (hF.at 2 rfl) rfl) rfl rfl rfl fun a hF=>?_
       refine E.opv hF (r_pick_f (hF.at 3 rfl) (hF.at 0 rfl)) rfl rfl rfl rfl fun a hF=>?_
       refine E.opv hF (r_move (hF.at 0 rfl)) rfl rfl rfl rfl fun a hF=>?_
       refine E.opvg hF (r_field (hF.at 11 rfl) (fa_OSD_2 (p:=2) rfl)) (wanted_by rfl rfl (hF.at 0 rfl) rfl) rfl rfl rfl fun a hF=>?_
       refine E.opvg hF (r_load (hF.at 0 rfl) (ldb_int (v:= .int .i64 d) (st.bk 0 rfl) rfl)) (wanted_by rfl rfl (hF.at 1 rfl) rfl) rfl rfl rfl fun a hF=>?_
       by_cases hc4:d<1
       ·first
        |(exfalso;omega)
        |(refine E.opvg hF (r_bin (hF.at 0 rfl) ev_c eg_scalar (bi_int (ic_lss (c:=true) (dec_tt hc4)) (by simp))) (wanted_by rfl rfl (hF.at 2 rfl) rfl) rfl rfl rfl fun a hF=>?_
          refine E.opv hF (r_pick_f (hF.at 3 rfl) (hF.at 0 rfl)) rfl rfl rfl rfl fun a hF=>?_
          refine E.opv hF (r_move (hF.at 0 rfl)) rfl rfl rfl rfl fun a hF=>?_
          refine E.unwanted hF (wanted_by rfl rfl (hF.at 0 rfl) rfl) rfl rfl rfl fun a hF=>?_
          refine E.unwanted hF (wanted_by rfl rfl (hF.at 1 rfl) rfl) rfl rfl rfl fun a hF=>?_
          refine E.unwanted hF (wanted_by rfl rfl (hF.at 2 rfl) rfl) rfl rfl rfl fun a hF=>?_
          refine E.opv hF (r_pick_t (hF.at 3 rfl) ev_c) rfl rfl rfl rfl fun a hF=>?_
          refine E.opv hF (r_assign (hF.at 0 rfl)) rfl rfl rfl rfl fun a hF=>?_
          refine E.nil ?_
          refine wp_cond_true (hF.at 0 rfl) ?_
          refine wp_seq ?_
          refine E.seq ?_
          refine E.opset (L':=[(2,.int .i64 0),(7,.bool true),(25,.bool true),(24,undef),(23,undef),(22,undef),(21,.bool true),(20,.bool true),(19,.bool true),(18,.int .i64 d),(17,.pointer (some ⟨g1,2,none⟩)),(16,.bool false),(15,.bool false),(14,.bool false),(13,.int .i64 m),(12,.pointer (some ⟨g1,1,none⟩)),(11,.bool false),(10,.bool false),(9,.int .i64 m),(8,.pointer (some ⟨g1,1,none⟩)),(3,.int .i64 0),(1,.pointer (some ⟨g1,0,none⟩)),(0,.agg #[.int .i64 y,.int .i64 m,.int .i64 d])]) hF (r_assign ev_c) rfl rfl rfl rfl fun a hF=>?_
          refine E.opset (L':=[(3,.int .i64 4),(2,.int .i64 0),(7,.bool true),(25,.bool true),(24,undef),(23,undef),(22,undef),(21,.bool true),(20,.bool true),(19,.bool true),(18,.int .i64 d),(17,.pointer (some ⟨g1,2,none⟩)),(16,.bool false),(15,.bool false),(14,.bool false),(13,.int .i64 m),(12,.pointer (some ⟨g1,1,none⟩)),(11,.bool false),(10,.bool false),(9,.int .i64 m),(8,.pointer (some ⟨g1,1,none⟩)),(1,.pointer (some ⟨g1,0,none⟩)),(0,.agg #[.int .i64 y,.int .i64 m,.int .i64 d])]) hF (r_assign ev_c) rfl rfl rfl rfl fun a hF=>?_
          refine E.nil ?_
          refine wp_ret ?_
          have bel:=st.bel
          refine bodyPost_ret (res_tmp2 Try.results17 (hF.at 1 rfl) (hF.at 0 rfl)) hF.dfr ?_
          have hfx:=os_4 (y:=y) (m:=m) (d:=d) (by omega)
          exact⟨rv_int2 hfx.1 hfx.2,bel⟩)
       ·first
        |(exfalso;omega)
        |(refine E.opvg hF (r_bin (hF.at 0 rfl) ev_c eg_scalar (bi_int (ic_lss (c:=false) (dec_ff hc4)) (by simp))) (wanted_by rfl rfl (hF.at 2 rfl) rfl) rfl rfl rfl fun a hF=>?_
          refine E.opv hF (r_pick_f (hF.at 3 rfl) (hF.at 0 rfl)) rfl rfl rfl rfl fun a hF=>?_
          refine E.opv hF (r_move (hF.at 0 rfl)) rfl rfl rfl rfl fun a hF=>?_
          refine E.opvg hF (r_field (hF.at 16 rfl) (fa_OSD_2 (p:=2) rfl)) (wanted_by rfl rfl (hF.at 0 rfl) rfl) rfl rfl rfl fun a hF=>?_
          refine E.opvg hF (r_load (hF.at 0 rfl) (ldb_int (v:= .int .i64 d) (st.bk 0 rfl) rfl)) (wanted_by rfl rfl (hF.at 1 rfl) rfl) rfl rfl rfl fun a hF=>?_
          by_cases hc5:31<d
          ·first
           |(exfalso;omega)
           |(refine E.opvg hF (r_bin (hF.at 0 rfl) ev_c eg_scalar (bi_int (ic_gtr (c:=true) (dec_tt hc5)) (by simp))) (wanted_by rfl rfl (hF.at 2 rfl) rfl) rfl rfl rfl fun a hF=>?_
             refine E.opv hF (r_pick_f (hF.at 3 rfl) (hF.at 0 rfl)) rfl rfl rfl rfl fun a hF=>?_
             refine E.opv hF (r_assign (hF.at 0 rfl)) rfl rfl rfl rfl fun a hF=>?_
             refine E.nil ?_
             refine wp_cond_true (hF.at 0 rfl) ?_
             refine wp_seq ?_
             refine E.seq ?_
             refine E.opset (L':=[(2,.int .i64 0),(7,.bool true),(25,.bool true),(24,.bool true),(23,.int .i64 d),(22,.pointer (some ⟨g1,2,none⟩)),(21,.bool false),(20,.bool false),(19,.bool false),(18,.int .i64 d),(17,.pointer (some ⟨g1,2,none⟩)),(16,.bool false),(15,.bool false),(14,.bool false),(13,.int .i64 m),(12,.pointer (some ⟨g1,1,none⟩)),(11,.bool false),(10,.bool false),(9,.int .i64 m),(8,.pointer (some ⟨g1,1,none⟩)),(3,.int .i64 0),(1,.pointer (some ⟨g1,0,none⟩)),(0,.agg #[.int .i64 y,.int .i64 m,.int .i64 d])]) hF (r_assign ev_c) rfl rfl rfl rfl fun a hF=>?_
             refine E.opset (L':=[(3,.int .i64 4),(2,.int .i64 0),(7,.bool true),(25,.bool true),(24,.bool true),(23,.int .i64 d),(22,.pointer (some ⟨g1,2,none⟩)),(21,.bool false),(20,.bool false),(19,.bool false),(18,.int .i64 d),(17,.pointer (some ⟨g1,2,none⟩)),(16,.bool false),(15,.bool false),(14,.bool false),(13,.int .i64 m),(12,.pointer (some ⟨g1,1,none⟩)),(11,.bool false),(10,.bool false),(9,.int .i64 m),(8,.pointer (some ⟨g1,1,none⟩)),(1,.pointer (some ⟨g1,0,none⟩)),(0,.agg #[.int .i64 y,.int .i64 m,.int .i64 d])]) hF (r_assign ev_c) rfl rfl rfl rfl fun a hF=>?_
             refine E.nil ?_
             refine wp_ret ?_
             have bel:=st.bel
             refine bodyPost_ret (res_tmp2 Try.results17 (hF.at 1 rfl) (hF.at 0 rfl)) hF.dfr ?_
             have hfx:=os_4 (y:=y) (m:=m) (d:=d) (by omega)
             exact⟨rv_int2 hfx.1 hfx.2,bel⟩)
          ·first
           |(exfalso;omega)
           |(refine E.opvg hF (r_bin (hF.at 0 rfl) ev_c eg_scalar (bi_int (ic_gtr (c:=false) (dec_ff hc5)) (by simp))) (wanted_by rfl rfl (hF.at 2 rfl) rfl) rfl rfl rfl fun a hF=>?_
             refine E.opv hF (r_pick_f (hF.at 3 rfl) (hF.at 0 rfl)) rfl rfl rfl rfl fun a hF=>?_
             refine E.opv hF (r_assign (hF.at 0 rfl)) rfl rfl rfl rfl fun a hF=>?_
             refine E.nil ?_
             refine wp_cond_false (hF.at 0 rfl) ?_
             refine wp_seq ?_
             refine E.seq ?_
             refine E.opv hF (r_field (hF.at 21 rfl) (fa_OSD_0 (p:=0) rfl)) rfl rfl rfl rfl fun a hF=>?_
             refine E.opv hF (r_load (hF.at 0 rfl) (ldb_i64 (v:= .int .i64 y) (st.bk 0 rfl) rfl)) rfl rfl rfl rfl fun a hF=>?_
             by_cases hc6:y<(-20000)
             ·first
              |(exfalso;omega)
              |(refine E.opv hF (r_bin (hF.at 0 rfl) ev_c eg_scalar (bi_int (ic_lss (c:=true) (dec_tt hc6)) (by simp))) rfl rfl rfl rfl fun a hF=>?_
                refine E.opv hF (r_move (hF.at 0 rfl)) rfl rfl rfl rfl fun a hF=>?_
                refine E.unwanted hF (wanted_by rfl rfl (hF.at 0 rfl) rfl) rfl rfl rfl fun a hF=>?_
                refine E.unwanted hF (wanted_by rfl rfl (hF.at 1 rfl) rfl) rfl rfl rfl fun a hF=>?_
                refine E.unwanted hF (wanted_by rfl rfl (hF.at 2 rfl) rfl) rfl rfl rfl fun a hF=>?_
                refine E.opv hF (r_pick_t (hF.at 3 rfl) ev_c) rfl rfl rfl rfl fun a hF=>?_
                refine E.opv hF (r_assign (hF.at 0 rfl)) rfl rfl rfl rfl fun a hF=>?_
                refine E.nil ?_
                refine wp_cond_true (hF.at 0 rfl) ?_
                refine wp_seq ?_
                refine E.seq ?_
                refine E.opset (L':=[(2,.int .i64 0),(26,.bool true),(34,.bool true),(33,undef),(32,undef),(31,undef),(30,.bool true),(29,.bool true),(28,.int .i64 y),(27,.pointer (some ⟨g1,0,none⟩)),(7,.bool false),(25,.bool false),(24,.bool false),(23,.int .i64 d),(22,.pointer (some ⟨g1,2,none⟩)),(21,.bool false),(20,.bool false),(19,.bool false),(18,.int .i64 d),(17,.pointer (some ⟨g1,2,none⟩)),(16,.bool false),(15,.bool false),(14,.bool false),(13,.int .i64 m),(12,.pointer (some ⟨g1,1,none⟩)),(11,.bool false),(10,.bool false),(9,.int .i64 m),(8,.pointer (some ⟨g1,1,none⟩)),(3,.int .i64 0),(1,.pointer (some ⟨g1,0,none⟩)),(0,.agg #[.int .i64 y,.int .i64 m,.int .i64 d])]) hF (r_assign ev_c) rfl rfl rfl rfl fun a hF=>?_
                refine E.opset (L':=[(3,.int .i64 2),(2,.int .i64 0),(26,.bool true),(34,.bool true),(33,undef),(32,undef),(31,undef),(30,.bool true),(29,.bool true),(28,.int .i64 y),(27,.pointer (some ⟨g1,0,none⟩)),(7,.bool false),(25,.bool false),(24,.bool false),(23,.int .i64 d),(22,.pointer (some ⟨g1,2,none⟩)),(21,.bool false),(20,.bool false),(19,.bool false),(18,.int .i64 d),(17,.pointer (some ⟨g1,2,none⟩)),(16,.bool false),(15,.bool false),(14,.bool false),(13,.int .i64 m),(12,.pointer (some ⟨g1,1,none⟩)),(11,.bool false),(10,.bool false),(9,.int .i64 m),(8,.pointer (some ⟨g1,1,none⟩)),(1,.pointer (some ⟨g1,0,none⟩)),(0,.agg #[.int .i64 y,.int .i64 m,.int .i64 d])]) hF (r_assign ev_c) rfl rfl rfl rfl fun a hF=>?_
                refine E.nil ?_
                refine wp_ret ?_
                have bel:=st.bel
                refine bodyPost_ret (res_tmp2 Try.results17 (hF.at 1 rfl) (hF.at 0 rfl)) hF.dfr ?_
                have hfx:=os_2 (y:=y) (m:=m) (d:=d) (by omega) (by omega)
                exact⟨rv_int2 hfx.1 hfx.2,bel⟩)
             ·first
              |(exfalso;omega)
              |(refine E.opv hF (r_bin (hF.at 0 rfl) ev_c eg_scalar (bi_int (ic_lss (c:=false) (dec_ff hc6)) (by simp))) rfl rfl rfl rfl fun a hF=>?_
                refine E.opv hF (r_move (hF.at 0 rfl)) rfl rfl rfl rfl fun a hF=>?_
                refine E.opvg hF (r_field (hF.at 25 rfl) (fa_OSD_0 (p:=0) rfl)) (wanted_by rfl rfl (hF.at 0 rfl) rfl) rfl rfl rfl fun a hF=>?_
                refine E.opvg hF (r_load (hF.at 0 rfl) (ldb_i64 (v:= .int .i64 y) (st.bk 0 rfl) rfl)) (wanted_by rfl rfl (hF.at 1 rfl) rfl) rfl rfl rfl fun a hF=>?_
                by_cases hc7:20000<y
                ·first
                 |(exfalso;omega)
                 |(refine E.opvg hF (r_bin (hF.at 0 rfl) ev_c eg_scalar (bi_int (ic_gtr (c:=true) (dec_tt hc7)) (by simp))) (wanted_by rfl rfl (hF.at 2 rfl) rfl) rfl rfl rfl fun a hF=>?_
                   refine E.opv hF (r_pick_f (hF.at 3 rfl) (hF.at 0 rfl)) rfl rfl rfl rfl fun a hF=>?_
                   refine E.opv hF (r_assign (hF.at 0 rfl)) rfl rfl rfl rfl fun a hF=>?_
                   refine E.nil ?_
                   refine wp_cond_true (hF.at 0 rfl) ?_
                   refine wp_seq ?_
                   refine E.seq ?_
                   refine E.opset (L':=[(2,.int .i64 0),(26,.bool true),(34,.bool true),(33,.bool true),(32,.int .i64 y),(31,.pointer (some ⟨g1,0,none⟩)),(30,.bool false),(29,.bool false),(28,.int .i64 y),(27,.pointer (some ⟨g1,0,none⟩)),(7,.bool false),(25,.bool false),(24,.bool false),(23,.int .i64 d),(22,.pointer (some ⟨g1,2,none⟩)),(21,.bool false),(20,.bool false),(19,.bool false),(18,.int .i64 d),(17,.pointer (some ⟨g1,2,none⟩)),(16,.bool false),(15,.bool false),(14,.bool false),(13,.int .i64 m),(12,.pointer (some ⟨g1,1,none⟩)),(11,.bool false),(10,.bool false),(9,.int .i64 m),(8,.pointer (some ⟨g1,1,none⟩)),(3,.int .i64 0),(1,.pointer (some ⟨g1,0,none⟩)),(0,.agg #[.int .i64 y,.int .i64 m,.int .i64 d])]) hF (r_assign ev_c) rfl rfl rfl rfl fun a hF=>?_
                   refine E.opset (L':=[(3,.int .i64 2),(2,.int .i64 0),(26,.bool true),(34,.bool true),(33,.bool true),(32,.int .i64 y),(31,.pointer (some ⟨g1,0,none⟩)),(30,.bool false),(29,.bool false),(28,.int .i64 y),(27,.pointer (some ⟨g1,0,none⟩)),(7,.bool false),(25,.bool false),(24,.bool false),(23,.int .i64 d),(22,.pointer (some ⟨g1,2,none⟩)),(21,.bool false),(20,.bool false),(19,.bool false),(18,.int .i64 d),(17,.pointer (some ⟨g1,2,none⟩)),(16,.bool false),(15,.bool false),(14,.bool false),(13,.int .i64 m),(12,.pointer (some ⟨g1,1,none⟩)),(11,.bool false),(10,.bool false),(9,.int .i64 m),(8,.pointer (some ⟨g1,1,none⟩)),(1,.pointer (some ⟨g1,0,none⟩)),(0,.agg #[.int .i64 y,.int .i64 m,.int .i64 d])]) hF (r_assign ev_c) rfl rfl rfl rfl fun a hF=>?_
                   refine E.nil ?_
                   refine wp_ret ?_
                   have bel:=st.bel
                   refine bodyPost_ret (res_tmp2 Try.results17 (hF.at 1 rfl) (hF.at 0 rfl)) hF.dfr ?_
                   have hfx:=os_2 (y:=y) (m:=m) (d:=d) (by omega) (by omega)
                   exact⟨rv_int2 hfx.1 hfx.2,bel⟩)
                ·first
                 |(exfalso;omega)
                 |(refine E.opvg hF (r_bin (hF.at 0 rfl) ev_c eg_scalar (bi_int (ic_gtr (c:=false) (dec_ff hc7)) (by simp))) (wanted_by rfl rfl (hF.at 2 rfl) rfl) rfl rfl rfl fun a hF=>?_
                   refine E.opv hF (r_pick_f (hF.at 3 rfl) (hF.at 0 rfl)) rfl rfl rfl rfl fun a hF=>?_
                   refine E.opv hF (r_assign (hF.at 0 rfl)) rfl rfl rfl rfl fun a hF=>?_
                   refine E.nil ?_
                   refine wp_cond_false (hF.at 0 rfl) ?_
                   refine wp_skip ?_
                   refine E.blk ?_
                   refine E.norm ?_
                   refine wp_seq ?_
                   refine E.seq ?_
                   refine E.opv hF (r_load (hF.at 30 rfl) (ld_all ty_OSD (st.bk 0 rfl) rfl)) rfl rfl rfl rfl fun a hF=>?_
                   refine S.callx st hF (r_call Try.func42 en42.1 en42.2 (map1 (hF.at 0 rfl))) (osFirst_any y m d _ (by omega) (by omega) (by omega) (by omega) (by omega) (by omega)) rfl rfl rfl rfl fun w8 a st hF=>?_
                   have hxb:=osX_bd (y:=y) (m:=m) (d:=d) (by omega) (by omega) (by omega) (by omega) (by omega) (by omega)
                   refine E.opv hF (r_assign (hF.at 0 rfl)) rfl rfl rfl rfl fun a hF=>?_
                   obtain⟨n,hn⟩:∃n:Int,n=osX y m d:=⟨_,rfl⟩
                   rw[←hn] at hF hxb
                   refine E.nil ?_
                   refine wp_seq ?_
                   refine E.seq ?_
                   refine E.opv hF (r_move (hF.at 0 rfl)) rfl rfl rfl rfl fun a hF=>?_
                   by_cases hc9: -3000000≤n∧n≤3000000
                   ·first
                    |(exfalso;omega)
                    |(refine S.callx st hF (r_call Try.func14 en14.1 en14.2 (map1 (hF.at 0 rfl))) (osOf_any n _ (by omega) (by omega)) rfl rfl rfl rfl fun w10 a st hF=>?_
                      have hob9:=osM_in (n:=n) (by omega) (by omega)
                      have hod9:=osD_bd (n)
                      refine E.opv hF (r_move (hF.at 0 rfl)) rfl rfl rfl rfl fun a hF=>?_
                      refine E.opv hF (r_extract (v:= .agg #[.int .i64 (osM n/12),.int .i64 (osM n%12+1),.int .i64 (osD n)]) (hF.at 0 rfl) rfl) rfl rfl rfl rfl fun a hF=>?_
                      refine E.opv hF (r_extract (v:= .int .i64 0) (hF.at 1 rfl) rfl) rfl rfl rfl rfl fun a hF=>?_
                      refine S.new st hF 1 rfl ty_OSD rfl rfl rfl rfl rfl fun g5 w11 a st hF=>?_
                      refine E.opv hF (r_assign (hF.at 1 rfl)) rfl rfl rfl rfl fun a hF=>?_
                      refine E.nil ?_
                      refine wp_seq ?_
                      refine wp_block ?_
                      refine wp_seq ?_
                      refine E.seq ?_
                      refine E.opv hF (r_move (hF.at 0 rfl)) rfl rfl rfl rfl fun a hF=>?_
                      refine E.opv hF (r_bin (hF.at 0 rfl) ev_c eg_scalar (bi_int (ic_neq (c:=false) (by decide)) (by simp))) rfl rfl rfl rfl fun a hF=>?_
                      refine E.opv hF (r_assign (hF.at 0 rfl)) rfl rfl rfl rfl fun a hF=>?_
                      refine E.nil ?_
                      refine wp_cond_false (hF.at 0 rfl) ?_
                      refine wp_seq ?_
                      refine E.seq ?_
                      refine E.opv hF (r_load (hF.at 4 rfl) (ld_all ty_OSD (st.bk 0 rfl) rfl)) rfl rfl rfl rfl fun a hF=>?_
                      refine E.opv hF (r_load (hF.at 44 rfl) (ld_all ty_OSD (st.bk 1 rfl) rfl)) rfl rfl rfl rfl fun a hF=>?_
                      by_cases hc12:(osM n/12)=y∧(osM n%12+1)=m∧(osD n)=d
                      ·first
                       |(exfalso;omega)
                       |(refine E.opv hF (r_bin (hF.at 1 rfl) (hF.at 0 rfl) eg_OSD (ens_OSD (dec_tt hc12))) rfl rfl rfl rfl fun a hF=>?_
                         refine E.opv hF (r_assign (hF.at 0 rfl)) rfl rfl rfl rfl fun a hF=>?_
                         refine E.nil ?_
                         refine wp_cond_false (hF.at 0 rfl) ?_
                         refine wp_skip ?_
                         refine E.blk ?_
                         refine E.norm ?_
                         refine wp_seq ?_
                         refine E.seq ?_
                         refine E.opv hF (r_move (hF.at 14 rfl)) rfl rfl rfl rfl fun a hF=>?_
                         refine E.opset (L':=[(2,.int .i64 n),(50,.int .i64 n),(46,.bool false),(49,.bool false),(48,.agg #[.int .i64 y,.int .i64 m,.int .i64 d]),(47,.agg #[.int .i64 (osM n/12),.int .i64 (osM n%12+1),.int .i64 (osD n)]),(42,.bool false),(44,.bool false),(43,.int .i64 0),(6,.int .i64 0),(5,.pointer (some ⟨g5,0,none⟩)),(41,.int .i64 0),(40,.agg #[.int .i64 (osM n/12),.int .i64 (osM n%12+1),.int .i64 (osD n)]),(37,.tuple #[.agg #[.int .i64 (osM n/12),.int .i64 (osM n%12+1),.int .i64 (osD n)],.int .i64 0]),(39,.tuple #[.agg #[.int .i64 (osM n/12),.int .i64 (osM n%12+1),.int .i64 (osD n)],.int .i64 0]),(38,.int .i64 n),(4,.int .i64 n),(36,.int .i64 n),(35,.agg #[.int .i64 y,.int .i64 m,.int .i64 d]),(26,.bool false),(34,.bool false),(33,.bool false),(32,.int .i64 y),(31,.pointer (some ⟨g1,0,none⟩)),(30,.bool false),(29,.bool false),(28,.int .i64 y),(27,.pointer (some ⟨g1,0,none⟩)),(7,.bool false),(25,.bool false),(24,.bool false),(23,.int .i64 d),(22,.pointer (some ⟨g1,2,none⟩)),(21,.bool false),(20,.bool false),(19,.bool false),(18,.int .i64 d),(17,.pointer (some ⟨g1,2,none⟩)),(16,.bool false),(15,.bool false),(14,.bool false),(13,.int .i64 m),(12,.pointer (some ⟨g1,1,none⟩)),(11,.bool false),(10,.bool false),(9,.int .i64 m),(8,.pointer (some ⟨g1,1,none⟩)),(3,.int .i64 0),(1,.pointer (some ⟨g1,0,none⟩)),(0,.agg #[.int .i64 y,.int .i64 m,.int .i64 d])]) hF (r_assign (hF.at 0 rfl)) rfl rfl rfl rfl fun a hF=>?_
                         refine E.opset (L':=[(3,.int .i64 0),(2,.int .i64 n),(50,.int .i64 n),(46,.bool false),(49,.bool false),(48,.agg #[.int .i64 y,.int .i64 m,.int .i64 d]),(47,.agg #[.int .i64 (osM n/12),.int .i64 (osM n%12+1),.int .i64 (osD n)]),(42,.bool false),(44,.bool false),(43,.int .i64 0),(6,.int .i64 0),(5,.pointer (some ⟨g5,0,none⟩)),(41,.int .i64 0),(40,.agg #[.int .i64 (osM n/12),.int .i64 (osM n%12+1),.int .i64 (osD n)]),(37,.tuple #[.agg #[.int .i64 (osM n/12),.int .i64 (osM n%12+1),.int .i64 (osD n)],.int .i64 0]),(39,.tuple #[.agg #[.int .i64 (osM n/12),.int .i64 (osM n%12+1),.int .i64 (osD n)],.int .i64 0]),(38,.int .i64 n),(4,.int .i64 n),(36,.int .i64 n),(35,.agg #[.int .i64 y,.int .i64 m,.int .i64 d]),(26,.bool false),(34,.bool false),(33,.bool false),(32,.int .i64 y),(31,.pointer (some ⟨g1,0,none⟩)),(30,.bool false),(29,.bool false),(28,.int .i64 y),(27,.pointer (some ⟨g1,0,none⟩)),(7,.bool false),(25,.bool false),(24,.bool false),(23,.int .i64 d),(22,.pointer (some ⟨g1,2,none⟩)),(21,.bool false),(20,.bool false),(19,.bool false),(18,.int .i64 d),(17,.pointer (some ⟨g1,2,none⟩)),(16,.bool false),(15,.bool false),(14,.bool false),(13,.int .i64 m),(12,.pointer (some ⟨g1,1,none⟩)),(11,.bool false),(10,.bool false),(9,.int .i64 m),(8,.pointer (some ⟨g1,1,none⟩)),(1,.pointer (some ⟨g1,0,none⟩)),(0,.agg #[.int .i64 y,.int .i64 m,.int .i64 d])]) hF (r_assign ev_c) rfl rfl rfl rfl fun a hF=>?_
                         refine E.nil ?_
                         refine wp_ret ?_
                         have bel:=st.bel
                         refine bodyPost_ret (res_tmp2 Try.results17 (hF.at 1 rfl) (hF.at 0 rfl)) hF.dfr ?_
                         have hfx:=os_0 hn (by omega) (by omega) (by omega) hc12
                         exact⟨rv_int2 hfx.1 hfx.2,bel⟩)
                      ·first
                       |(exfalso;omega)
                       |(refine E.opv hF (r_bin (hF.at 1 rfl) (hF.at 0 rfl) eg_OSD (ens_OSD (dec_ff hc12))) rfl rfl rfl rfl fun a hF=>?_
                         refine E.opv hF (r_assign (hF.at 0 rfl)) rfl rfl rfl rfl fun a hF=>?_
                         refine E.nil ?_
                         refine wp_cond_true (hF.at 0 rfl) ?_
                         refine wp_seq ?_
                         refine E.seq ?_
                         refine E.opset (L':=[(2,.int .i64 0),(46,.bool true),(49,.bool true),(48,.agg #[.int .i64 y,.int .i64 m,.int .i64 d]),(47,.agg #[.int .i64 (osM n/12),.int .i64 (osM n%12+1),.int .i64 (osD n)]),(42,.bool false),(44,.bool false),(43,.int .i64 0),(6,.int .i64 0),(5,.pointer (some ⟨g5,0,none⟩)),(41,.int .i64 0),(40,.agg #[.int .i64 (osM n/12),.int .i64 (osM n%12+1),.int .i64 (osD n)]),(37,.tuple #[.agg #[.int .i64 (osM n/12),.int .i64 (osM n%12+1),.int .i64 (osD n)],.int .i64 0]),(39,.tuple #[.agg #[.int .i64 (osM n/12),.int .i64 (osM n%12+1),.int .i64 (osD n)],.int .i64 0]),(38,.int .i64 n),(4,.int .i64 n),(36,.int .i64 n),(35,.agg #[.int .i64 y,.int .i64 m,.int .i64 d]),(26,.bool false),(34,.bool false),(33,.bool false),(32,.int .i64 y),(31,.pointer (some ⟨g1,0,none⟩)),(30,.bool false),(29,.bool false),(28,.int .i64 y),(27,.pointer (some ⟨g1,0,none⟩)),(7,.bool false),(25,.bool false),(24,.bool false),(23,.int .i64 d),(22,.pointer (some ⟨g1,2,none⟩)),(21,.bool false),(20,.bool false),(19,.bool false),(18,.int .i64 d),(17,.pointer (some ⟨g1,2,none⟩)),(16,.bool false),(15,.bool false),(14,.bool false),(13,.int .i64 m),(12,.pointer (some ⟨g1,1,none⟩)),(11,.bool false),(10,.bool false),(9,.int .i64 m),(8,.pointer (some ⟨g1,1,none⟩)),(3,.int .i64 0),(1,.pointer (some ⟨g1,0,none⟩)),(0,.agg #[.int .i64 y,.int .i64 m,.int .i64 d])]) hF (r_assign ev_c) rfl rfl rfl rfl fun a hF=>?_
                         refine E.opset (L':=[(3,.int .i64 3),(2,.int .i64 0),(46,.bool true),(49,.bool true),(48,.agg #[.int .i64 y,.int .i64 m,.int .i64 d]),(47,.agg #[.int .i64 (osM n/12),.int .i64 (osM n%12+1),.int .i64 (osD n)]),(42,.bool false),(44,.bool false),(43,.int .i64 0),(6,.int .i64 0),(5,.pointer (some ⟨g5,0,none⟩)),(41,.int .i64 0),(40,.agg #[.int .i64 (osM n/12),.int .i64 (osM n%12+1),.int .i64 (osD n)]),(37,.tuple #[.agg #[.int .i64 (osM n/12),.int .i64 (osM n%12+1),.int .i64 (osD n)],.int .i64 0]),(39,.tuple #[.agg #[.int .i64 (osM n/12),.int .i64 (osM n%12+1),.int .i64 (osD n)],.int .i64 0]),(38,.int .i64 n),(4,.int .i64 n),(36,.int .i64 n),(35,.agg #[.int .i64 y,.int .i64 m,.int .i64 d]),(26,.bool false),(34,.bool false),(33,.bool false),(32,.int .i64 y),(31,.pointer (some ⟨g1,0,none⟩)),(30,.bool false),(29,.bool false),(28,.int .i64 y),(27,.pointer (some ⟨g1,0,none⟩)),(7,.bool false),(25,.bool false),(24,.bool false),(23,.int .i64 d),(22,.pointer (some ⟨g1,2,none⟩)),(21,.bool false),(20,.bool false),(19,.bool false),(18,.int .i64 d),(17,.pointer (some ⟨g1,2,none⟩)),(16,.bool false),(15,.bool false),(14,.bool false),(13,.int .i64 m),(12,.pointer (some ⟨g1,1,none⟩)),(11,.bool false),(10,.bool false),(9,.int .i64 m),(8,.pointer (some ⟨g1,1,none⟩)),(1,.pointer (some ⟨g1,0,none⟩)),(0,.agg #[.int .i64 y,.int .i64 m,.int .i64 d])]) hF (r_assign ev_c) rfl rfl rfl rfl fun a hF=>?_
                         refine E.nil ?_
                         refine wp_ret ?_
                         have bel:=st.bel
                         refine bodyPost_ret (res_tmp2 Try.results17 (hF.at 1 rfl) (hF.at 0 rfl)) hF.dfr ?_
                         have hfx:=os_3 hn (by omega) (by omega) (by omega) hc12
                         exact⟨rv_int2 hfx.1 hfx.2,bel⟩))
                   ·first
                    |(exfalso;omega)
                    |(refine S.callx st hF (r_call Try.func14 en14.1 en14.2 (map1 (hF.at 0 rfl))) (osOfX_any n _ (by omega)) rfl rfl rfl rfl fun w13 a st hF=>?_
                      refine E.opv hF (r_move (hF.at 0 rfl)) rfl rfl rfl rfl fun a hF=>?_
                      refine E.opv hF (r_extract (v:= .agg #[.int .i64 0,.int .i64 0,.int .i64 0]) (hF.at 0 rfl) rfl) rfl rfl rfl rfl fun a hF=>?_
                      refine E.opv hF (r_extract (v:= .int .i64 2) (hF.at 1 rfl) rfl) rfl rfl rfl rfl fun a hF=>?_
                      refine S.new st hF 1 rfl ty_OSD rfl rfl rfl rfl rfl fun g5 w14 a st hF=>?_
                      refine E.opv hF (r_assign (hF.at 1 rfl)) rfl rfl rfl rfl fun a hF=>?_
                      refine E.nil ?_
                      refine wp_seq ?_
                      refine wp_block ?_
                      refine wp_seq ?_
                      refine E.seq ?_
                      refine E.opv hF (r_move (hF.at 0 rfl)) rfl rfl rfl rfl fun a hF=>?_
                      refine E.opv hF (r_bin (hF.at 0 rfl) ev_c eg_scalar (bi_int (ic_neq (c:=true) (by decide)) (by simp))) rfl rfl rfl rfl fun a hF=>?_
                      refine E.opv hF (r_assign (hF.at 0 rfl)) rfl rfl rfl rfl fun a hF=>?_
                      refine E.nil ?_
                      refine wp_cond_true (hF.at 0 rfl) ?_
                      refine wp_seq ?_
                      refine E.seq ?_
                      refine E.opv hF (r_move (hF.at 3 rfl)) rfl rfl rfl rfl fun a hF=>?_
                      refine E.opset (L':=[(2,.int .i64 0),(45,.int .i64 2),(42,.bool true),(44,.bool true),(43,.int .i64 2),(6,.int .i64 2),(5,.pointer (some ⟨g5,0,none⟩)),(41,.int .i64 2),(40,.agg #[.int .i64 0,.int .i64 0,.int .i64 0]),(37,.tuple #[.agg #[.int .i64 0,.int .i64 0,.int .i64 0],.int .i64 2]),(39,.tuple #[.agg #[.int .i64 0,.int .i64 0,.int .i64 0],.int .i64 2]),(38,.int .i64 n),(4,.int .i64 n),(36,.int .i64 n),(35,.agg #[.int .i64 y,.int .i64 m,.int .i64 d]),(26,.bool false),(34,.bool false),(33,.bool false),(32,.int .i64 y),(31,.pointer (some ⟨g1,0,none⟩)),(30,.bool false),(29,.bool false),(28,.int .i64 y),(27,.pointer (some ⟨g1,0,none⟩)),(7,.bool false),(25,.bool false),(24,.bool false),(23,.int .i64 d),(22,.pointer (some ⟨g1,2,none⟩)),(21,.bool false),(20,.bool false),(19,.bool false),(18,.int .i64 d),(17,.pointer (some ⟨g1,2,none⟩)),(16,.bool false),(15,.bool false),(14,.bool false),(13,.int .i64 m),(12,.pointer (some ⟨g1,1,none⟩)),(11,.bool false),(10,.bool false),(9,.int .i64 m),(8,.pointer (some ⟨g1,1,none⟩)),(3,.int .i64 0),(1,.pointer (some ⟨g1,0,none⟩)),(0,.agg #[.int .i64 y,.int .i64 m,.int .i64 d])]) hF (r_assign ev_c) rfl rfl rfl rfl fun a hF=>?_
                      refine E.opset (L':=[(3,.int .i64 2),(2,.int .i64 0),(45,.int .i64 2),(42,.bool true),(44,.bool true),(43,.int .i64 2),(6,.int .i64 2),(5,.pointer (some ⟨g5,0,none⟩)),(41,.int .i64 2),(40,.agg #[.int .i64 0,.int .i64 0,.int .i64 0]),(37,.tuple #[.agg #[.int .i64 0,.int .i64 0,.int .i64 0],.int .i64 2]),(39,.tuple #[.agg #[.int .i64 0,.int .i64 0,.int .i64 0],.int .i64 2]),(38,.int .i64 n),(4,.int .i64 n),(36,.int .i64 n),(35,.agg #[.int .i64 y,.int .i64 m,.int .i64 d]),(26,.bool false),(34,.bool false),(33,.bool false),(32,.int .i64 y),(31,.pointer (some ⟨g1,0,none⟩)),(30,.bool false),(29,.bool false),(28,.int .i64 y),(27,.pointer (some ⟨g1,0,none⟩)),(7,.bool false),(25,.bool false),(24,.bool false),(23,.int .i64 d),(22,.pointer (some ⟨g1,2,none⟩)),(21,.bool false),(20,.bool false),(19,.bool false),(18,.int .i64 d),(17,.pointer (some ⟨g1,2,none⟩)),(16,.bool false),(15,.bool false),(14,.bool false),(13,.int .i64 m),(12,.pointer (some ⟨g1,1,none⟩)),(11,.bool false),(10,.bool false),(9,.int .i64 m),(8,.pointer (some ⟨g1,1,none⟩)),(1,.pointer (some ⟨g1,0,none⟩)),(0,.agg #[.int .i64 y,.int .i64 m,.int .i64 d])]) hF (r_assign (hF.at 1 rfl)) rfl rfl rfl rfl fun a hF=>?_
                      refine E.nil ?_
                      refine wp_ret ?_
                      have bel:=st.bel
                      refine bodyPost_ret (res_tmp2 Try.results17 (hF.at 1 rfl) (hF.at 0 rfl)) hF.dfr ?_
                      have hfx:=os_2f hn (by omega) (by omega) (by omega)
                      exact⟨rv_int2 hfx.1 hfx.2,bel⟩)))))))
end Go.Proofs.Ytacnedknihlfnaa
