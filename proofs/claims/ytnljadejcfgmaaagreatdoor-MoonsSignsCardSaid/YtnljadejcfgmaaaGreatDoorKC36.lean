import Derived.Test.YtnljadejcfgmaaaGreatDoorKC35
namespace Go.Proofs.YtnljadejcfgmaaaGreatDoor
open Go.RowKit
set_option maxRecDepth 100000
set_option linter.unusedVariables false
set_option maxHeartbeats 8000000
theorem en111:(Tryz.f111.name == "runtime.NumGoroutine")=false∧Tryz.f111.body.isNone=false:=⟨by decide+kernel,by kernel_rfl⟩
def wax (t:Rat):Bool:=!full t
def cmT (n:Int) (t:Rat):Bool:=full ((n:Int):Rat) && wax t
theorem cmT_day (n:Int):cmT n (((n+1:Int)):Rat)=comes n:=rfl
theorem qc_lt15 {a b:Rat}:qc a b<0↔a<b:=by
 rw[qc_def]
 split
 ·rename_i h;exact⟨fun _=>h,fun _=>by decide⟩
 ·rename_i h;exact⟨fun e=>absurd e (by split <;> decide),fun e=>absurd e h⟩
theorem wax_qc (t:Rat):decide (qc (phaseV t) ((180:Int):Rat)<0)=wax t:=by
 unfold wax full
 by_cases h:phaseV t<((180:Int):Rat)
 ·rw[decide_eq_true (qc_lt15.2 h),decide_eq_false (by grind)];rfl
 ·rw[decide_eq_false (fun e=>h (qc_lt15.1 e)),decide_eq_true (by grind)];rfl
theorem skp_bd {x:Rat} (h0:0≤x) (h1:x≤((360:Int):Rat)):0≤skp x∧skp x≤26:=by
 rw[show((360:Int):Rat)=360 from rfl] at h1
 exact⟨skp_ge h0,by have:=skp_le (x:=x) (m:=27) (by rw[show((27:Int):Rat)=27 from rfl];grind) (by decide);omega⟩
theorem dnext_lim {n:Int} (h0: -9223372036854775808≤n) (h1:n≤9223372036854775807):RLim (((n+1:Int)):Rat) 2:=
 rlim_int (show(n+1).natAbs <B32^2 from by rw[show B32^2=18446744073709551616 from rfl];omega) (by decide)
theorem skDay_any (n:Int) (w:World) (hn0: -9223372036854775808≤n) (hn1:n≤9223372036854775807):
 Calls Tryz.prog 108 #[.int .i64 n] w (RqPost w (((n+1:Int)):Rat)):=by
 have st:=St.start w
 refine E.enter (nt:=7) (L:=[(0,.int .i64 n)]) Tryz.func108 rfl rfl rfl (args_cons (i:=0) rfl args_nil) ?_
 intro a hF
 refine wp_seq ?_
 refine E.seq ?_
 refine S.alloc st hF ty_Rat rfl rfl fun g2 w1 a st hF=>?_
 refine E.nil ?_
 refine wp_seq ?_
 refine E.seq ?_
 refine E.opv hF (r_move (hF.at 1 rfl)) rfl rfl rfl rfl fun a hF=>?_
 refine S.ck st hF (rgc k40 (map1 (hF.at 0 rfl))) (rq_ret (rWhole_any (n) _ (by omega) (by omega)) (rlim_int (limz_64 (by omega) (by omega)) (by omega))) Rl.cl rfl fun vv3 w2 a st hF=>?_
 obtain⟨b5,ad5,n5,c5,ae5,m5,d5,rfl⟩:=Rq.form (st.f 0 rfl).1
 refine S.ck st hF (rgc k40 (map1 ev_c)) (rq_ret (rWhole_any (1) _ (by decide) (by decide)) (rlim_int (limz_64 (by decide) (by decide)) (by omega))) Rl.cl rfl fun vv7 w6 a st hF=>?_
 obtain⟨b9,ad9,n9,c9,ae9,m9,d9,rfl⟩:=Rq.form (st.f 0 rfl).1
 refine S.ck st hF (rgc k56 (map2 (hF.at 1 rfl) (hF.at 0 rfl))) (qAdd (st.f 1 rfl) (st.f 0 rfl)) Rl.cl rfl fun vv11 w10 a st hF=>?_
 obtain⟨b13,ad13,n13,c13,ae13,m13,d13,rfl⟩:=Rq.form (st.f 0 rfl).1
 refine S.sto st hF 0 rfl (hF.at 4 rfl) (hF.at 0 rfl) ty_Rat rfl rfl rfl rfl fun w14 a st hF=>?_
 refine E.nil ?_
 refine wp_ret ?_
 refine S.ret Tryz.results108 st hF (hF.at 4 rfl) 0 rfl ty_Rat rfl hF.dfr ?_
 have bel:=st.bel
 exact⟨_,rfl,Rq.castM (st.f 0 rfl).1 (by rw[Rat.intCast_add]),bel⟩
theorem skWax_any (v1:Value) (qt:Rat) (k:Nat) (w:World) (hT:TabD w) (h1:Rq w v1 qt) (hl:RLim qt k) (hk:k≤100):
 Calls Tryz.prog 111 #[v1] w (ValPost w (.bool (wax qt))):=by
 have st:=St.start w
 refine E.enter (nt:=8) (L:=[(0,v1)]) Tryz.func111 rfl rfl rfl (args_cons (i:=0) rfl args_nil) ?_
 intro a hF
 refine wp_seq ?_
 refine E.seq ?_
 obtain⟨b2,ad2,n2,c2,ae2,m2,d2,rfl⟩:=Rq.form h1
 refine S.box st hF (hF.at 0 rfl) rfl rfl fun g1 w1 a st hF=>?_
 refine E.opv hF (r_assign ev_c) rfl rfl rfl rfl fun a hF=>?_
 refine E.nil ?_
 refine wp_seq ?_
 refine E.seq ?_
 refine E.opv hF (r_load (hF.at 1 rfl) (ld_all ty_Rat (st.bk 0 rfl) rfl)) rfl rfl rfl rfl fun a hF=>?_
 refine S.ck st hF (rgc k153 (map1 (hF.at 0 rfl))) (qoPhaseO (hT.below st.bel) ⟨(h1.below st.bel),hl⟩) Rl.cl rfl fun vv4 w3 a st hF=>?_
 obtain⟨b6,ad6,n6,c6,ae6,m6,d6,rfl⟩:=Rq.form (st.f 0 rfl).1
 refine S.ck st hF (rgc k40 (map1 ev_c)) (rq_ret (rWhole_any (180) _ (by decide) (by decide)) (rlim_int (limz_64 (by decide) (by decide)) (by omega))) Rl.cl rfl fun vv8 w7 a st hF=>?_
 obtain⟨b10,ad10,n10,c10,ae10,m10,d10,rfl⟩:=Rq.form (st.f 0 rfl).1
 refine S.callx st hF (rgc k30 (map2 (hF.at 1 rfl) (hF.at 0 rfl))) (rCmp_any _ _ _ _ (max (6*k+210) 2) _ (st.f 1 rfl).1 (st.f 0 rfl).1 ((st.f 1 rfl).2.up _ (by omega)) ((st.f 0 rfl).2.up _ (by omega)) (by omega)) rfl rfl rfl rfl fun w11 a st hF=>?_
 refine E.opv hF (r_bin (hF.at 0 rfl) ev_c eg_scalar (bi_int (ic_lss (c:=decide (qc (phaseV (qt)) (((180:Int):Rat))<0)) rfl) (by simp))) rfl rfl rfl rfl fun a hF=>?_
 refine E.opset (L':=[(2,.bool (decide (qc (phaseV (qt)) (((180:Int):Rat))<0))),(7,.bool (decide (qc (phaseV (qt)) (((180:Int):Rat))<0))),(6,.int .i64 (qc (phaseV (qt)) (((180:Int):Rat)))),(5,.agg #[.bool b10,.slice ad10 n10 c10,.slice ae10 m10 d10]),(4,.agg #[.bool b6,.slice ad6 n6 c6,.slice ae6 m6 d6]),(3,.agg #[.bool b2,.slice ad2 n2 c2,.slice ae2 m2 d2]),(1,.pointer (some ⟨g1,0,none⟩)),(0,.agg #[.bool b2,.slice ad2 n2 c2,.slice ae2 m2 d2])]) hF (r_assign (hF.at 0 rfl)) rfl rfl rfl rfl fun a hF=>?_
 refine E.nil ?_
 refine wp_ret ?_
 have bel:=st.bel
 refine bodyPost_ret (res_tmp Tryz.results111 (hF.at 0 rfl)) hF.dfr ?_
 exact⟨by rw[wax_qc],bel⟩
theorem ask_wax (w:World) (hT:TabD w):AskP w 111 #[] 100 wax:=
 ⟨⟨_,Tryz.func111,en111.1,en111.2⟩,fun v q w' hb hv hl=>skWax_any v q 100 w' (hT.below hb) hv hl (by decide)⟩
theorem cmT_f {n:Int} {t:Rat} (h:wax ((n:Int):Rat)=true):cmT n t=false:=by
 unfold cmT
 unfold wax at h
 rw[show full ((n:Int):Rat)=false by simpa using h];rfl
theorem cmT_t {n:Int} {t:Rat} (h:¬wax ((n:Int):Rat)=true):cmT n t=wax t:=by
 unfold cmT
 rw[show full ((n:Int):Rat)=true by unfold wax at h;simpa using h];rfl
theorem skComesT_any (n:Int) (v1:Value) (qt:Rat) (k:Nat) (w:World) (hT:TabD w) (h1:Rq w v1 qt) (hl:RLim qt k) (hk:k≤100) (hn0: -9000000000000000000≤n) (hn1:n≤9000000000000000000):
 Calls Tryz.prog 107 #[.int .i64 n,v1] w (ValPost w (.bool (cmT n qt))):=by
 have st:=St.start w
 refine E.enter (nt:=13) (L:=[(0,.int .i64 n),(1,v1)]) Tryz.func107 rfl rfl rfl (args_cons (i:=0) rfl (args_cons (i:=1) rfl args_nil)) ?_
 intro a hF
 refine wp_seq ?_
 refine E.seq ?_
 obtain⟨b2,ad2,n2,c2,ae2,m2,d2,rfl⟩:=Rq.form h1
 refine S.box st hF (hF.at 1 rfl) rfl rfl fun g3 w1 a st hF=>?_
 refine E.opv hF (r_assign ev_c) rfl rfl rfl rfl fun a hF=>?_
 refine E.nil ?_
 refine wp_seq ?_
 refine E.seq ?_
 refine E.opv hF (r_move (hF.at 2 rfl)) rfl rfl rfl rfl fun a hF=>?_
 refine S.ck st hF (rgc k40 (map1 (hF.at 0 rfl))) (rq_ret (rWhole_any (n) _ (by omega) (by omega)) (rlim_int (limz_64 (by omega) (by omega)) (by omega))) Rl.cl rfl fun vv4 w3 a st hF=>?_
 obtain⟨b6,ad6,n6,c6,ae6,m6,d6,rfl⟩:=Rq.form (st.f 0 rfl).1
 refine S.callx st hF (rgc k111 (map1 (hF.at 0 rfl))) (skWax_any _ _ 2 _ (hT.below st.bel) (st.f 0 rfl).1 (st.f 0 rfl).2 (by omega)) rfl rfl rfl rfl fun w7 a st hF=>?_
 by_cases hc8:wax (((n:Int):Rat))=true
 ·first
  |(exfalso;omega)
  |(refine E.opv hF (r_un (Eq.trans (hF.at 0 rfl) (congrArg Value.bool hc8)) (bn_not _ false rfl)) rfl rfl rfl rfl fun a hF=>?_
    refine E.opv hF (r_move (hF.at 0 rfl)) rfl rfl rfl rfl fun a hF=>?_
    refine E.unwanted hF (wanted_by rfl rfl (hF.at 0 rfl) rfl) rfl rfl rfl fun a hF=>?_
    refine E.unwanted hF (wanted_by rfl rfl (hF.at 1 rfl) rfl) rfl rfl rfl fun a hF=>?_
    refine E.opv hF (r_pick_f (hF.at 2 rfl) ev_c) rfl rfl rfl rfl fun a hF=>?_
    refine E.opset (L':=[(4,.bool false),(12,.bool false),(11,undef),(10,undef),(9,.bool false),(8,.bool false),(7,.bool (wax (((n:Int):Rat)))),(6,.agg #[.bool b6,.slice ad6 n6 c6,.slice ae6 m6 d6]),(5,.int .i64 n),(3,.pointer (some ⟨g3,0,none⟩)),(0,.int .i64 n),(1,.agg #[.bool b2,.slice ad2 n2 c2,.slice ae2 m2 d2])]) hF (r_assign (hF.at 0 rfl)) rfl rfl rfl rfl fun a hF=>?_
    refine E.nil ?_
    refine wp_ret ?_
    have bel:=st.bel
    refine bodyPost_ret (res_tmp Tryz.results107 (hF.at 0 rfl)) hF.dfr ?_
    exact⟨by rw[cmT_f hc8],bel⟩)
 ·first
  |(exfalso;omega)
  |(refine E.opv hF (r_un (Eq.trans (hF.at 0 rfl) (congrArg Value.bool (eq_false_of_ne_true hc8))) (bn_not _ true rfl)) rfl rfl rfl rfl fun a hF=>?_
    refine E.opv hF (r_move (hF.at 0 rfl)) rfl rfl rfl rfl fun a hF=>?_
    refine E.opvg hF (r_load (hF.at 6 rfl) (ld_all ty_Rat (st.bk 0 rfl) rfl)) (wanted_by rfl rfl (hF.at 0 rfl) rfl) rfl rfl rfl fun a hF=>?_
    refine S.callxg st hF (wanted_by rfl rfl (hF.at 1 rfl) rfl) (rgc k111 (map1 (hF.at 0 rfl))) (skWax_any _ (qt) k _ (hT.below st.bel) (h1.below st.bel) hl (by omega)) rfl rfl rfl fun w9 a st hF=>?_
    refine E.opv hF (r_pick_t (hF.at 2 rfl) (hF.at 0 rfl)) rfl rfl rfl rfl fun a hF=>?_
    refine E.opset (L':=[(4,.bool (wax (qt))),(12,.bool (wax (qt))),(11,.bool (wax (qt))),(10,.agg #[.bool b2,.slice ad2 n2 c2,.slice ae2 m2 d2]),(9,.bool true),(8,.bool true),(7,.bool (wax (((n:Int):Rat)))),(6,.agg #[.bool b6,.slice ad6 n6 c6,.slice ae6 m6 d6]),(5,.int .i64 n),(3,.pointer (some ⟨g3,0,none⟩)),(0,.int .i64 n),(1,.agg #[.bool b2,.slice ad2 n2 c2,.slice ae2 m2 d2])]) hF (r_assign (hF.at 0 rfl)) rfl rfl rfl rfl fun a hF=>?_
    refine E.nil ?_
    refine wp_ret ?_
    have bel:=st.bel
    refine bodyPost_ret (res_tmp Tryz.results107 (hF.at 0 rfl)) hF.dfr ?_
    exact⟨by rw[cmT_t hc8],bel⟩)
theorem skComes_any (n:Int) (w:World) (hT:TabD w) (hn0: -9000000000000000000≤n) (hn1:n≤9000000000000000000):
 Calls Tryz.prog 41 #[.int .i64 n] w (ValPost w (.bool (comes n))):=by
 have st:=St.start w
 refine E.enter (nt:=7) (L:=[(0,.int .i64 n)]) Tryz.func41 rfl rfl rfl (args_cons (i:=0) rfl args_nil) ?_
 intro a hF
 refine wp_seq ?_
 refine E.seq ?_
 refine E.opv hF (r_assign ev_c) rfl rfl rfl rfl fun a hF=>?_
 refine E.nil ?_
 refine wp_seq ?_
 refine E.seq ?_
 refine E.opv hF (r_move (hF.at 1 rfl)) rfl rfl rfl rfl fun a hF=>?_
 refine E.opv hF (r_move (hF.at 2 rfl)) rfl rfl rfl rfl fun a hF=>?_
 refine S.ck st hF (rgc k108 (map1 (hF.at 0 rfl))) (rq_ret (skDay_any n _ (by omega) (by omega)) (dnext_lim (n:=n) (by omega) (by omega))) Rl.cl rfl fun vv2 w1 a st hF=>?_
 obtain⟨b4,ad4,n4,c4,ae4,m4,d4,rfl⟩:=Rq.form (st.f 0 rfl).1
 refine S.callx st hF (rgc k107 (map2 (hF.at 2 rfl) (hF.at 0 rfl))) (skComesT_any n _ _ 2 _ (hT.below st.bel) (st.f 0 rfl).1 (st.f 0 rfl).2 (by omega) (by omega) (by omega)) rfl rfl rfl rfl fun w5 a st hF=>?_
 refine E.opset (L':=[(2,.bool (cmT n (((n+1:Int):Rat)))),(6,.bool (cmT n (((n+1:Int):Rat)))),(5,.agg #[.bool b4,.slice ad4 n4 c4,.slice ae4 m4 d4]),(4,.int .i64 n),(3,.int .i64 n),(0,.int .i64 n)]) hF (r_assign (hF.at 0 rfl)) rfl rfl rfl rfl fun a hF=>?_
 refine E.nil ?_
 refine wp_ret ?_
 have bel:=st.bel
 refine bodyPost_ret (res_tmp Tryz.results41 (hF.at 0 rfl)) hF.dfr ?_
 exact⟨by rw[←cmT_day],bel⟩
theorem hday_any (n h:Int) (N:Nat) (kf:FuncId) (cap:Array Value) (p:Rat→Bool) (w:World) (hN:min (max h 0) 64=((N:Nat):Int)) (hN2:N≤64) (hn0: -9000000000000000000≤n) (hn1:n≤9000000000000000000) (hask:AskP w kf cap 14 p):
 Calls Tryz.prog 110 #[.int .i64 n,.int .i64 h,.func (.func kf) #[] cap] w ((fun e w'=>∃v u,e= .returned (.tuple #[v,u])∧Rq w' v (hlo p ((n:Int):Rat) (((n+1:Int)):Rat) N)∧Rq w' u (hhi p ((n:Int):Rat) (((n+1:Int)):Rat) N)∧Below w.heap.size w w')):=by
 have st:=St.start w
 refine E.enter (nt:=17) (L:=[(0,.int .i64 n),(1,.int .i64 h),(2,.func (.func kf) #[] cap)]) Tryz.func110 rfl rfl rfl (args_cons (i:=0) rfl (args_cons (i:=1) rfl (args_cons (i:=2) rfl args_nil))) ?_
 intro a hF
 refine wp_seq ?_
 refine E.seq ?_
 refine S.alloc st hF ty_Rat rfl rfl fun g6 w1 a st hF=>?_
 refine S.alloc st hF ty_Rat rfl rfl fun g7 w2 a st hF=>?_
 refine E.nil ?_
 refine wp_seq ?_
 refine E.seq ?_
 refine E.opv hF (r_move (hF.at 2 rfl)) rfl rfl rfl rfl fun a hF=>?_
 refine S.ck st hF (rgc k40 (map1 (hF.at 0 rfl))) (rq_ret (rWhole_any (n) _ (by omega) (by omega)) (rlim_int (limz_64 (by omega) (by omega)) (by omega))) Rl.cl rfl fun vv4 w3 a st hF=>?_
 obtain⟨b6,ad6,n6,c6,ae6,m6,d6,rfl⟩:=Rq.form (st.f 0 rfl).1
 refine E.opv hF (r_move (hF.at 4 rfl)) rfl rfl rfl rfl fun a hF=>?_
 refine S.ck st hF (rgc k108 (map1 (hF.at 0 rfl))) (rq_ret (skDay_any n _ (by omega) (by omega)) (dnext_lim (n:=n) (by omega) (by omega))) Rl.cl rfl fun vv8 w7 a st hF=>?_
 obtain⟨b10,ad10,n10,c10,ae10,m10,d10,rfl⟩:=Rq.form (st.f 0 rfl).1
 refine E.opv hF (r_move (hF.at 7 rfl)) rfl rfl rfl rfl fun a hF=>?_
 refine E.opv hF (r_move (hF.at 9 rfl)) rfl rfl rfl rfl fun a hF=>?_
 refine S.call2 st hF (rgc k161 (map4s (hF.at 4 rfl) (hF.at 2 rfl) (hF.at 1 rfl) (hF.at 0 rfl))) (bis_any _ _ _ _ 2 2 h N _ _ p _ (st.f 1 rfl).1 (st.f 0 rfl).1 (st.f 1 rfl).2 (st.f 0 rfl).2 (by omega) (by omega) hN (by omega) ((hask.below st.bel).to (by omega))) (fun _ _ h=>h) Rq.cl Rq.cl rfl rfl rfl rfl fun vv12 vv13 w11 a st hF=>?_
 obtain⟨b16,ad16,n16,c16,ae16,m16,d16,rfl⟩:=Rq.form (st.f 0 rfl)
 obtain⟨b17,ad17,n17,c17,ae17,m17,d17,rfl⟩:=Rq.form (st.f 1 rfl)
 refine E.opv hF (r_extract (v:= .agg #[.bool b16,.slice ad16 n16 c16,.slice ae16 m16 d16]) (hF.at 0 rfl) rfl) rfl rfl rfl rfl fun a hF=>?_
 refine E.opv hF (r_extract (v:= .agg #[.bool b17,.slice ad17 n17 c17,.slice ae17 m17 d17]) (hF.at 1 rfl) rfl) rfl rfl rfl rfl fun a hF=>?_
 refine S.sto st hF 1 rfl (hF.at 10 rfl) (hF.at 1 rfl) ty_Rat rfl rfl rfl rfl fun w18 a st hF=>?_
 refine S.sto st hF 0 rfl (hF.at 9 rfl) (hF.at 0 rfl) ty_Rat rfl rfl rfl rfl fun w19 a st hF=>?_
 refine E.nil ?_
 refine wp_ret ?_
 have bel:=st.bel
 refine bodyPost_ret (res_cell2 Tryz.results110 (hF.at 10 rfl) (ld_all ty_Rat (st.bk 1 rfl) rfl) (hF.at 9 rfl) (ld_all ty_Rat (st.bk 0 rfl) rfl)) hF.dfr ?_
 exact⟨_,_,rfl,(st.f 0 rfl),(st.f 1 rfl),bel⟩
theorem skNew_any (n:Int) (w:World) (hT:TabD w) (hn0: -9000000000000000000≤n) (hn1:n≤9000000000000000000):
 Calls Tryz.prog 46 #[.int .i64 n] w ((fun e w'=>∃v u,e= .returned (.tuple #[v,u])∧Rq w' v (hlo wax ((n:Int):Rat) (((n+1:Int)):Rat) 10)∧Rq w' u (hhi wax ((n:Int):Rat) (((n+1:Int)):Rat) 10)∧Below w.heap.size w w')):=by
 have st:=St.start w
 refine E.enter (nt:=8) (L:=[(0,.int .i64 n)]) Tryz.func46 rfl rfl rfl (args_cons (i:=0) rfl args_nil) ?_
 intro a hF
 refine wp_seq ?_
 refine E.seq ?_
 refine S.alloc st hF ty_Rat rfl rfl fun g2 w1 a st hF=>?_
 refine S.alloc st hF ty_Rat rfl rfl fun g3 w2 a st hF=>?_
 refine E.nil ?_
 refine wp_seq ?_
 refine E.seq ?_
 refine E.opv hF (r_move (hF.at 2 rfl)) rfl rfl rfl rfl fun a hF=>?_
 refine S.call2 st hF (rgc k110 (map3 (hF.at 0 rfl) ev_c rfl)) (hday_any n 10 10 _ _ wax _ (by decide) (by omega) (by omega) (by omega) ((ask_wax _ (hT.below st.bel)).to (by omega))) (fun _ _ h=>h) Rq.cl Rq.cl rfl rfl rfl rfl fun vv4 vv5 w3 a st hF=>?_
 obtain⟨b8,ad8,n8,c8,ae8,m8,d8,rfl⟩:=Rq.form (st.f 0 rfl)
 obtain⟨b9,ad9,n9,c9,ae9,m9,d9,rfl⟩:=Rq.form (st.f 1 rfl)
 refine E.opv hF (r_extract (v:= .agg #[.bool b8,.slice ad8 n8 c8,.slice ae8 m8 d8]) (hF.at 0 rfl) rfl) rfl rfl rfl rfl fun a hF=>?_
 refine E.opv hF (r_extract (v:= .agg #[.bool b9,.slice ad9 n9 c9,.slice ae9 m9 d9]) (hF.at 1 rfl) rfl) rfl rfl rfl rfl fun a hF=>?_
 refine S.sto st hF 1 rfl (hF.at 5 rfl) (hF.at 1 rfl) ty_Rat rfl rfl rfl rfl fun w10 a st hF=>?_
 refine S.sto st hF 0 rfl (hF.at 4 rfl) (hF.at 0 rfl) ty_Rat rfl rfl rfl rfl fun w11 a st hF=>?_
 refine E.nil ?_
 refine wp_ret ?_
 have bel:=st.bel
 refine bodyPost_ret (res_cell2 Tryz.results46 (hF.at 5 rfl) (ld_all ty_Rat (st.bk 1 rfl) rfl) (hF.at 4 rfl) (ld_all ty_Rat (st.bk 0 rfl) rfl)) hF.dfr ?_
 exact⟨_,_,rfl,(st.f 0 rfl),(st.f 1 rfl),bel⟩
theorem days14_any (v1:Value) (qt:Rat) (k:Nat) (w:World) (h1:Rq w v1 (qt*(((1:Int):Rat)/((14:Int):Rat)))) (hl:RLim (qt*(((1:Int):Rat)/((14:Int):Rat))) k) (hk:k≤10000) (h0:0≤qt) (h3:qt≤((360:Int):Rat)):Calls Tryz.prog 89 #[v1] w (ValPost w (.tuple #[.int .i64 (skp qt),.bool true])):=by
 have h:=cDays_any v1 _ k w h1 hl hk
 have b:=skp_bd h0 h3
 rwa[show Rat.floor (qt*(((1:Int):Rat)/((14:Int):Rat)))=skp qt from rfl,sm64_t (by omega) (by omega),fit64_t (by omega) (by omega)] at h
theorem skDays_any (v1:Value) (qt:Rat) (k:Nat) (w:World) (h1:Rq w v1 qt) (hl:RLim qt k) (hk:k≤3000) (h0:0≤qt) (h3:qt≤((360:Int):Rat)):
 Calls Tryz.prog 152 #[v1] w (ValPost w (.int .i64 (skp qt))):=by
 have st:=St.start w
 refine E.enter (nt:=13) (L:=[(0,v1)]) Tryz.func152 rfl rfl rfl (args_cons (i:=0) rfl args_nil) ?_
 intro a hF
 refine wp_seq ?_
 refine E.seq ?_
 obtain⟨b2,ad2,n2,c2,ae2,m2,d2,rfl⟩:=Rq.form h1
 refine S.box st hF (hF.at 0 rfl) rfl rfl fun g1 w1 a st hF=>?_
 refine E.opv hF (r_assign ev_c) rfl rfl rfl rfl fun a hF=>?_
 refine E.nil ?_
 refine wp_seq ?_
 refine E.rg 9 mixed hF [6,7,8,9,5,10,11,3,4] [_,_,_,_,.ex (.tuple #[.int .i64 (skp qt),.bool true]),.ex (.int .i64 (skp qt)),.ex (.bool true),.ex (.int .i64 (skp qt)),.ex (.bool true)] (by decide+kernel) rfl rfl rfl ⟨rb st ty_Rat 1 0 rfl,ck st k35 rfl fun _ s=>rq_ret (rOf2_any (1) (14) _ (by decide) (by decide) (by decide) (by decide)) (RLim.up (rlim_mk2 (limz_64 (by decide) (by decide)) (limz_64 (by decide) (by decide))) 2 (by decide)),ck st k58 rfl fun _ s _ x7=>qMul ⟨(h1.below s.bel),hl⟩ x7,ck st k89 rfl fun _ s _ x8=>ex_ret (days14_any _ qt (k+2) _ x8.1 x8.2 (by omega) h0 h3),(by intro a' w' hF' hb hd;have e9:=sHe hd 0 9 rfl rfl rfl rfl;exact dv0 (r_move e9) rfl rfl rfl),(by intro a' w' hF' hb hd;have e5:=sHe hd 0 5 rfl rfl rfl rfl;exact dv0 (r_extract (v:= .int .i64 (skp qt)) e5 rfl) rfl rfl rfl),(by intro a' w' hF' hb hd;have e5:=sHe hd 0 5 rfl rfl rfl rfl;exact dv0 (r_extract (v:= .bool true) e5 rfl) rfl rfl rfl),(by intro a' w' hF' hb hd;have e10:=sHe hd 0 10 rfl rfl rfl rfl;exact dv0 (r_assign e10) rfl rfl rfl),(by intro a' w' hF' hb hd;have e11:=sHe hd 0 11 rfl rfl rfl rfl;exact dv0 (r_assign e11) rfl rfl rfl),trivial⟩ ?_
 intro a w3 hF bb hall
 replace st:=st.to bb
 replace hF:=rE hall hF 7 rfl rfl
 clear hall bb
 refine E.nil ?_
 refine wp_seq ?_
 refine E.seq ?_
 refine E.opv hF (r_move (hF.at 0 rfl)) rfl rfl rfl rfl fun a hF=>?_
 refine E.opset (L':=[(2,.int .i64 (skp qt)),(12,.int .i64 (skp qt)),(3,.int .i64 (skp qt)),(1,.pointer (some ⟨g1,0,none⟩)),(0,.agg #[.bool b2,.slice ad2 n2 c2,.slice ae2 m2 d2])]) hF (r_assign (hF.at 0 rfl)) rfl rfl rfl rfl fun a hF=>?_
 refine E.nil ?_
 refine wp_ret ?_
 have bel:=st.bel
 refine bodyPost_ret (res_tmp Tryz.results152 (hF.at 0 rfl)) hF.dfr ?_
 exact⟨rfl,bel⟩
theorem daysL_any (v1:Value) (qt:Rat) (k:Nat) (w:World) (h1:Rq w v1 qt) (hl:RLim qt k) (hk:k≤10000) (h0: -9223372036854775808≤qt.floor) (h3:qt.floor≤9223372036854775807):Calls Tryz.prog 89 #[v1] w (ValPost w (.tuple #[.int .i64 (Rat.floor qt),.bool true])):=by
 have h:=cDays_any v1 _ k w h1 hl hk
 rwa[sm64_t h0 h3,fit64_t h0 h3] at h
theorem ph_deg (n:Int):0≤phaseV ((n:Int):Rat)∧phaseV ((n:Int):Rat)≤((360:Int):Rat):=⟨phaseV_low _,Rat.le_of_lt (phaseV_high _)⟩
theorem ph_rest (n:Int):0≤((360:Int):Rat)-phaseV ((n:Int):Rat)∧((360:Int):Rat)-phaseV ((n:Int):Rat)≤((360:Int):Rat):=by
 have:=ph_deg n
 constructor <;> grind
theorem skLast_any (v1:Value) (qt:Rat) (k:Nat) (w:World) (hT:TabD w) (h1:Rq w v1 qt) (hl:RLim qt k) (hk:k≤100) (hf0: -8000000000000000000≤Rat.floor qt) (hf1:Rat.floor qt≤8000000000000000000):
 Calls Tryz.prog 99 #[v1] w (ValPost w (.int .i64 (lastV qt))):=by
 have st:=St.start w
 refine E.enter (nt:=37) (L:=[(0,v1)]) Tryz.func99 rfl rfl rfl (args_cons (i:=0) rfl args_nil) ?_
 intro a hF
 refine wp_seq ?_
 refine E.seq ?_
 obtain⟨b2,ad2,n2,c2,ae2,m2,d2,rfl⟩:=Rq.form h1
 refine S.box st hF (hF.at 0 rfl) rfl rfl fun g1 w1 a st hF=>?_
 refine E.opv hF (r_assign ev_c) rfl rfl rfl rfl fun a hF=>?_
 refine E.nil ?_
 refine wp_seq ?_
 refine E.seq ?_
 refine E.opv hF (r_load (hF.at 1 rfl) (ld_all ty_Rat (st.bk 0 rfl) rfl)) rfl rfl rfl rfl fun a hF=>?_
 refine S.callx st hF (rgc k89 (map1 (hF.at 0 rfl))) (daysL_any _ qt k _ (h1.below st.bel) hl (by omega) (by omega) (by omega)) rfl rfl rfl rfl fun w3 a st hF=>?_
 refine E.opv hF (r_move (hF.at 0 rfl)) rfl rfl rfl rfl fun a hF=>?_
 refine E.opv hF (r_extract (v:= .int .i64 (Rat.floor qt)) (hF.at 0 rfl) rfl) rfl rfl rfl rfl fun a hF=>?_
 refine E.opv hF (r_extract (v:= .bool true) (hF.at 1 rfl) rfl) rfl rfl rfl rfl fun a hF=>?_
 refine E.opv hF (r_assign (hF.at 1 rfl)) rfl rfl rfl rfl fun a hF=>?_
 refine E.opv hF (r_assign (hF.at 1 rfl)) rfl rfl rfl rfl fun a hF=>?_
 refine E.nil ?_
 refine wp_seq ?_
 refine wp_seq ?_
 refine E.seq ?_
 refine E.opv hF (r_move (hF.at 0 rfl)) rfl rfl rfl rfl fun a hF=>?_
 refine E.opv hF (r_un (hF.at 0 rfl) (bn_not _ false rfl)) rfl rfl rfl rfl fun a hF=>?_
 refine E.nil ?_
 refine wp_cond_false (hF.at 0 rfl) ?_
 refine wp_skip ?_
 refine E.norm ?_
 refine wp_seq ?_
 refine wp_seq ?_
 refine E.seq ?_
 refine E.opv hF (r_move (hF.at 3 rfl)) rfl rfl rfl rfl fun a hF=>?_
 refine E.opv hF (r_load (hF.at 11 rfl) (ld_all ty_Rat (st.bk 0 rfl) rfl)) rfl rfl rfl rfl fun a hF=>?_
 refine S.callx st hF (rgc k107 (map2 (hF.at 1 rfl) (hF.at 0 rfl))) (skComesT_any (Rat.floor qt) _ (qt) k _ (hT.below st.bel) (h1.below st.bel) hl (by omega) (by omega) (by omega)) rfl rfl rfl rfl fun w4 a st hF=>?_
 refine E.nil ?_
 by_cases hc5:cmT (Rat.floor qt) (qt)=true
 ·first
  |(exfalso;omega)
  |(refine wp_cond_true (Eq.trans (hF.at 0 rfl) (congrArg Value.bool hc5)) ?_
    refine wp_seq ?_
    refine E.seq ?_
    refine E.opv hF (r_move (hF.at 6 rfl)) rfl rfl rfl rfl fun a hF=>?_
    refine E.opset (L':=[(2,.int .i64 (Rat.floor qt)),(16,.int .i64 (Rat.floor qt)),(15,.bool (cmT (Rat.floor qt) (qt))),(14,.agg #[.bool b2,.slice ad2 n2 c2,.slice ae2 m2 d2]),(13,.int .i64 (Rat.floor qt)),(12,.bool false),(11,.bool true),(4,.bool true),(3,.int .i64 (Rat.floor qt)),(10,.bool true),(9,.int .i64 (Rat.floor qt)),(6,.tuple #[.int .i64 (Rat.floor qt),.bool true]),(8,.tuple #[.int .i64 (Rat.floor qt),.bool true]),(7,.agg #[.bool b2,.slice ad2 n2 c2,.slice ae2 m2 d2]),(1,.pointer (some ⟨g1,0,none⟩)),(0,.agg #[.bool b2,.slice ad2 n2 c2,.slice ae2 m2 d2])]) hF (r_assign (hF.at 0 rfl)) rfl rfl rfl rfl fun a hF=>?_
    refine E.nil ?_
    refine wp_ret ?_
    have bel:=st.bel
    refine bodyPost_ret (res_tmp Tryz.results99 (hF.at 0 rfl)) hF.dfr ?_
    exact⟨by rw[lastV_yes (t:=qt) hc5],bel⟩)
 ·first
  |(exfalso;omega)
  |(refine wp_cond_false (Eq.trans (hF.at 0 rfl) (congrArg Value.bool (eq_false_of_ne_true hc5))) ?_
    refine wp_skip ?_
    refine E.norm ?_
    refine wp_seq ?_
    refine wp_block ?_
    refine E.loop (fun mq a wv=>∃(m:Int),lastD (Rat.floor qt)<m∧m≤Rat.floor qt∧¬cmT (Rat.floor qt) (qt)=true∧Fr 37 a [(3,.int .i64 m)]∧St w wv [] []∧mq=(m-lastD (Rat.floor qt)).toNat) (((Rat.floor qt)-lastD (Rat.floor qt)).toNat) ?_ ?_
    ·exact⟨(Rat.floor qt),(lastD_spec (Rat.floor qt)).2.1,(Int.le_refl _),hc5,Fr.pick (L':=[(3,.int .i64 (Rat.floor qt))]) hF [6] rfl,st.pick [] [] rfl rfl (by decide),rfl⟩
    ·rintro mq a w6 ⟨m,hm0,hm1,hnow,hF,st,hm⟩
     have hls:=lastD_spec (Rat.floor qt)
     have hsk:=last_skip hm0 hls.2.2.1 (fun x h1 h2=>hls.2.2.2 x h1 (by omega))
     refine wp_seq ?_
     refine wp_seq ?_
     refine E.seq ?_
     refine E.opv hF (r_move (hF.at 0 rfl)) rfl rfl rfl rfl fun a hF=>?_
     by_cases hc7:(-9223372036854775808)<m
     ·first
      |(exfalso;omega)
      |(refine E.opv hF (r_bin (hF.at 0 rfl) ev_c eg_scalar (bi_int (ic_gtr (c:=true) (dec_tt hc7)) (by simp))) rfl rfl rfl rfl fun a hF=>?_
        refine E.nil ?_
        refine wp_cond_true (hF.at 0 rfl) ?_
        refine wp_skip ?_
        refine E.norm ?_
        refine wp_block ?_
        refine wp_seq ?_
        refine E.seq ?_
        refine E.opv hF (r_move (hF.at 2 rfl)) rfl rfl rfl rfl fun a hF=>?_
        refine S.ck st hF (rgc k40 (map1 (hF.at 0 rfl))) (rq_ret (rWhole_any (m) _ (by omega) (by omega)) (rlim_int (limz_64 (by omega) (by omega)) (by omega))) Rl.cl rfl fun vv9 w8 a st hF=>?_
        obtain⟨b11,ad11,n11,c11,ae11,m11,d11,rfl⟩:=Rq.form (st.f 0 rfl).1
        refine S.ck st hF (rgc k153 (map1 (hF.at 0 rfl))) (qoPhaseO (hT.below st.bel) (st.f 0 rfl)) Rl.cl rfl fun vv13 w12 a st hF=>?_
        obtain⟨b15,ad15,n15,c15,ae15,m15,d15,rfl⟩:=Rq.form (st.f 0 rfl).1
        refine S.callx st hF (rgc k152 (map1 (hF.at 0 rfl))) (skDays_any _ _ 222 _ (st.f 0 rfl).1 (st.f 0 rfl).2 (by omega) (ph_deg m).1 (ph_deg m).2) rfl rfl rfl rfl fun w16 a st hF=>?_
        have hskp:=skp_bd (ph_deg m).1 (ph_deg m).2
        refine E.opv hF (r_assign (hF.at 0 rfl)) rfl rfl rfl rfl fun a hF=>?_
        refine E.nil ?_
        refine wp_seq ?_
        refine wp_seq ?_
        refine E.seq ?_
        refine E.opv hF (r_move (hF.at 0 rfl)) rfl rfl rfl rfl fun a hF=>?_
        by_cases hc17:skp (phaseV (((m:Int):Rat)))=0
        ·first
         |(exfalso;omega)
         |(refine E.opv hF (r_bin (hF.at 0 rfl) ev_c eg_scalar (bi_int (ic_eql (c:=true) (dec_tt hc17)) (by simp))) rfl rfl rfl rfl fun a hF=>?_
           refine E.nil ?_
           refine wp_cond_true (hF.at 0 rfl) ?_
           refine wp_seq ?_
           refine E.seq ?_
           refine E.opv hF (r_move (hF.at 9 rfl)) rfl rfl rfl rfl fun a hF=>?_
           refine E.opv hF (r_bin (hF.at 0 rfl) ev_c eg_scalar (ia_sub (by omega) (by omega))) rfl rfl rfl rfl fun a hF=>?_
           refine E.opset (L':=[(3,.int .i64 (m-1)),(26,.int .i64 (m-1)),(25,.int .i64 m),(24,.bool true),(23,.int .i64 (skp (phaseV (((m:Int):Rat))))),(5,.int .i64 (skp (phaseV (((m:Int):Rat))))),(22,.int .i64 (skp (phaseV (((m:Int):Rat))))),(21,.agg #[.bool b15,.slice ad15 n15 c15,.slice ae15 m15 d15]),(20,.agg #[.bool b11,.slice ad11 n11 c11,.slice ae11 m11 d11]),(19,.int .i64 m),(18,.bool true),(17,.int .i64 m)]) hF (r_assign (hF.at 0 rfl)) rfl rfl rfl rfl fun a hF=>?_
           refine E.nil ?_
           refine wp_seq ?_
           refine wp_seq ?_
           refine E.seq ?_
           refine E.opv hF (r_move (hF.at 0 rfl)) rfl rfl rfl rfl fun a hF=>?_
           refine S.callx st hF (rgc k41 (map1 (hF.at 0 rfl))) (skComes_any (m-1) _ (hT.below st.bel) (by omega) (by omega)) rfl rfl rfl rfl fun w18 a st hF=>?_
           refine E.nil ?_
           by_cases hc19:comes (m-1)=true
           ·first
            |(exfalso;omega)
            |(refine wp_cond_true (Eq.trans (hF.at 0 rfl) (congrArg Value.bool hc19)) ?_
              refine wp_seq ?_
              refine E.seq ?_
              refine E.opv hF (r_move (hF.at 2 rfl)) rfl rfl rfl rfl fun a hF=>?_
              refine E.opv hF (r_assign (hF.at 0 rfl)) rfl rfl rfl rfl fun a hF=>?_
              refine E.nil ?_
              refine wp_ret ?_
              have bel:=st.bel
              refine bodyPost_ret (res_tmp Tryz.results99 (hF.at 0 rfl)) hF.dfr ?_
              exact⟨by rw[lastV_no (t:=qt) hnow,lastD_is (f:=Rat.floor qt) (by omega) (by omega) hc19],bel⟩)
           ·first
            |(exfalso;omega)
            |(refine wp_cond_false (Eq.trans (hF.at 0 rfl) (congrArg Value.bool (eq_false_of_ne_true hc19))) ?_
              refine wp_skip ?_
              refine E.norm ?_
              refine wp_exit ?_
              refine E.past ?_
              refine E.out (id:=1) ?_
              refine E.norm ?_
              exact⟨(m-1-lastD (Rat.floor qt)).toNat,by omega,⟨(m-1),(lastD_no (by omega) hc19),(by omega),hnow,Fr.pick (L':=[(3,.int .i64 (m-1))]) hF [2] rfl,st.pick [] [] rfl rfl (by decide),rfl⟩⟩))
        ·first
         |(exfalso;omega)
         |(refine E.opv hF (r_bin (hF.at 0 rfl) ev_c eg_scalar (bi_int (ic_eql (c:=false) (dec_ff hc17)) (by simp))) rfl rfl rfl rfl fun a hF=>?_
           refine E.nil ?_
           refine wp_cond_false (hF.at 0 rfl) ?_
           refine wp_skip ?_
           refine E.norm ?_
           refine wp_seq ?_
           refine wp_seq ?_
           refine E.seq ?_
           refine E.opv hF (r_move (hF.at 9 rfl)) rfl rfl rfl rfl fun a hF=>?_
           refine E.opv hF (r_move (hF.at 3 rfl)) rfl rfl rfl rfl fun a hF=>?_
           refine E.opv hF (r_bin ev_c (hF.at 0 rfl) eg_scalar (ia_add (by omega) (by omega))) rfl rfl rfl rfl fun a hF=>?_
           by_cases hc20:m<(-9223372036854775808)+(skp (phaseV (((m:Int):Rat))))
           ·first
            |(exfalso;omega)
            |(refine E.opv hF (r_bin (hF.at 2 rfl) (hF.at 0 rfl) eg_scalar (bi_int (ic_lss (c:=true) (dec_tt hc20)) (by simp))) rfl rfl rfl rfl fun a hF=>?_
              refine E.nil ?_
              refine wp_cond_true (hF.at 0 rfl) ?_
              refine wp_exit ?_
              refine E.past ?_
              refine E.pastb (by decide) ?_
              refine E.past ?_
              refine E.out (id:=0) ?_
              refine E.norm ?_
              refine wp_seq ?_
              refine E.seq ?_
              refine E.opv hF (r_assign ev_c) rfl rfl rfl rfl fun a hF=>?_
              refine E.nil ?_
              refine wp_ret ?_
              have bel:=st.bel
              refine bodyPost_ret (res_tmp Tryz.results99 (hF.at 0 rfl)) hF.dfr ?_
              exfalso;omega)
           ·first
            |(exfalso;omega)
            |(refine E.opv hF (r_bin (hF.at 2 rfl) (hF.at 0 rfl) eg_scalar (bi_int (ic_lss (c:=false) (dec_ff hc20)) (by simp))) rfl rfl rfl rfl fun a hF=>?_
              refine E.nil ?_
              refine wp_cond_false (hF.at 0 rfl) ?_
              refine wp_skip ?_
              refine E.norm ?_
              refine E.seq ?_
              refine E.opv hF (r_move (hF.at 13 rfl)) rfl rfl rfl rfl fun a hF=>?_
              refine E.opv hF (r_move (hF.at 7 rfl)) rfl rfl rfl rfl fun a hF=>?_
              refine E.opv hF (r_bin (hF.at 1 rfl) (hF.at 0 rfl) eg_scalar (ia_sub (by omega) (by omega))) rfl rfl rfl rfl fun a hF=>?_
              refine E.opset (L':=[(3,.int .i64 (m-(skp (phaseV (((m:Int):Rat)))))),(36,.int .i64 (m-(skp (phaseV (((m:Int):Rat)))))),(35,.int .i64 (skp (phaseV (((m:Int):Rat))))),(34,.int .i64 m),(33,.bool false),(32,.int .i64 ((-9223372036854775808)+(skp (phaseV (((m:Int):Rat)))))),(31,.int .i64 (skp (phaseV (((m:Int):Rat))))),(30,.int .i64 m),(24,.bool false),(23,.int .i64 (skp (phaseV (((m:Int):Rat))))),(5,.int .i64 (skp (phaseV (((m:Int):Rat))))),(22,.int .i64 (skp (phaseV (((m:Int):Rat))))),(21,.agg #[.bool b15,.slice ad15 n15 c15,.slice ae15 m15 d15]),(20,.agg #[.bool b11,.slice ad11 n11 c11,.slice ae11 m11 d11]),(19,.int .i64 m),(18,.bool true),(17,.int .i64 m)]) hF (r_assign (hF.at 0 rfl)) rfl rfl rfl rfl fun a hF=>?_
              refine E.nil0 ?_
              refine E.blk ?_
              refine E.norm ?_
              exact⟨(m-(skp (phaseV (((m:Int):Rat))))-lastD (Rat.floor qt)).toNat,by omega,⟨(m-(skp (phaseV (((m:Int):Rat))))),(by omega),(by omega),hnow,Fr.pick (L':=[(3,.int .i64 (m-(skp (phaseV (((m:Int):Rat))))))]) hF [0] rfl,st.pick [] [] rfl rfl (by decide),rfl⟩⟩)))
     ·first
      |(exfalso;omega)
      |(refine E.opv hF (r_bin (hF.at 0 rfl) ev_c eg_scalar (bi_int (ic_gtr (c:=false) (dec_ff hc7)) (by simp))) rfl rfl rfl rfl fun a hF=>?_
        refine E.nil ?_
        refine wp_cond_false (hF.at 0 rfl) ?_
        refine wp_exit ?_
        refine E.past ?_
        refine E.past ?_
        refine E.out (id:=0) ?_
        refine E.norm ?_
        refine wp_seq ?_
        refine E.seq ?_
        refine E.opv hF (r_assign ev_c) rfl rfl rfl rfl fun a hF=>?_
        refine E.nil ?_
        refine wp_ret ?_
        have bel:=st.bel
        refine bodyPost_ret (res_tmp Tryz.results99 (hF.at 0 rfl)) hF.dfr ?_
        exfalso;omega))
theorem nextD_no {n m:Int} (h:comes n=true) (h1:n<m) (h2:m≤nextD n) (hc:¬comes m=true):m<nextD n:=by
 have s:=nextD_spec h
 by_cases e:m=nextD n
 ·rw[e] at hc;exact absurd s.2.2.1 hc
 ·omega
theorem skNext_any (n:Int) (w:World) (hT:TabD w) (hn0: -8000000000000000000≤n) (hn1:n≤8000000000000000000) (hc:comes n=true):
 Calls Tryz.prog 109 #[.int .i64 n] w (ValPost w (.int .i64 (nextD n))):=by
 have st:=St.start w
 refine E.enter (nt:=24) (L:=[(0,.int .i64 n)]) Tryz.func109 rfl rfl rfl (args_cons (i:=0) rfl args_nil) ?_
 intro a hF
 refine wp_seq ?_
 refine E.seq ?_
 refine E.opv hF (r_assign ev_c) rfl rfl rfl rfl fun a hF=>?_
 refine E.nil ?_
 refine wp_seq ?_
 refine wp_block ?_
 refine E.loop (fun mq a wv=>∃(m:Int),n≤m∧m<nextD n∧Fr 24 a [(0,.int .i64 m)]∧St w wv [] []∧mq=(nextD n-m).toNat) ((nextD n-n).toNat) ?_ ?_
 ·exact⟨n,(Int.le_refl _),(by have:=nextD_spec hc;omega),Fr.pick (L':=[(0,.int .i64 n)]) hF [1] rfl,st.pick [] [] rfl rfl (by decide),rfl⟩
 ·rintro mq a w1 ⟨m,hm0,hm1,hF,st,hm⟩
  have hls:=nextD_spec hc
  have hsk:=next_skip hm1 hls.2.2.1 (fun x h1 h2=>hls.2.2.2 x (by omega) h2)
  refine wp_seq ?_
  refine wp_seq ?_
  refine E.seq ?_
  refine E.opv hF (r_move (hF.at 0 rfl)) rfl rfl rfl rfl fun a hF=>?_
  by_cases hc2:m<9223372036854775807
  ·first
   |(exfalso;omega)
   |(refine E.opv hF (r_bin (hF.at 0 rfl) ev_c eg_scalar (bi_int (ic_lss (c:=true) (dec_tt hc2)) (by simp))) rfl rfl rfl rfl fun a hF=>?_
     refine E.nil ?_
     refine wp_cond_true (hF.at 0 rfl) ?_
     refine wp_skip ?_
     refine E.norm ?_
     refine wp_block ?_
     refine wp_seq ?_
     refine E.seq ?_
     refine E.opv hF (r_move (hF.at 2 rfl)) rfl rfl rfl rfl fun a hF=>?_
     refine E.opv hF (r_bin (hF.at 0 rfl) ev_c eg_scalar (ia_add (by omega) (by omega))) rfl rfl rfl rfl fun a hF=>?_
     refine E.opset (L':=[(0,.int .i64 (m+1)),(7,.int .i64 (m+1)),(6,.int .i64 m),(5,.bool true),(4,.int .i64 m)]) hF (r_assign (hF.at 0 rfl)) rfl rfl rfl rfl fun a hF=>?_
     refine E.nil ?_
     refine wp_seq ?_
     refine E.seq ?_
     refine S.ck st hF (rgc k40 (map1 ev_c)) (rq_ret (rWhole_any (360) _ (by decide) (by decide)) (rlim_int (limz_64 (by decide) (by decide)) (by omega))) Rl.cl rfl fun vv4 w3 a st hF=>?_
     obtain⟨b6,ad6,n6,c6,ae6,m6,d6,rfl⟩:=Rq.form (st.f 0 rfl).1
     refine E.opv hF (r_move (hF.at 1 rfl)) rfl rfl rfl rfl fun a hF=>?_
     refine S.ck st hF (rgc k40 (map1 (hF.at 0 rfl))) (rq_ret (rWhole_any (m+1) _ (by omega) (by omega)) (rlim_int (limz_64 (by omega) (by omega)) (by omega))) Rl.cl rfl fun vv8 w7 a st hF=>?_
     obtain⟨b10,ad10,n10,c10,ae10,m10,d10,rfl⟩:=Rq.form (st.f 0 rfl).1
     refine S.ck st hF (rgc k153 (map1 (hF.at 0 rfl))) (qoPhaseO (hT.below st.bel) (st.f 0 rfl)) Rl.cl rfl fun vv12 w11 a st hF=>?_
     obtain⟨b14,ad14,n14,c14,ae14,m14,d14,rfl⟩:=Rq.form (st.f 0 rfl).1
     refine S.ck st hF (rgc k57 (map2 (hF.at 3 rfl) (hF.at 0 rfl))) (qSub (st.f 2 rfl) (st.f 0 rfl)) Rl.cl rfl fun vv16 w15 a st hF=>?_
     obtain⟨b18,ad18,n18,c18,ae18,m18,d18,rfl⟩:=Rq.form (st.f 0 rfl).1
     refine S.callx st hF (rgc k152 (map1 (hF.at 0 rfl))) (skDays_any _ _ 225 _ (st.f 0 rfl).1 (st.f 0 rfl).2 (by omega) (ph_rest (m+1)).1 (ph_rest (m+1)).2) rfl rfl rfl rfl fun w19 a st hF=>?_
     have hskp:=skp_bd (ph_rest (m+1)).1 (ph_rest (m+1)).2
     refine E.opv hF (r_assign (hF.at 0 rfl)) rfl rfl rfl rfl fun a hF=>?_
     refine E.nil ?_
     refine wp_seq ?_
     refine wp_seq ?_
     refine E.seq ?_
     refine E.opv hF (r_move (hF.at 7 rfl)) rfl rfl rfl rfl fun a hF=>?_
     refine E.opv hF (r_move (hF.at 1 rfl)) rfl rfl rfl rfl fun a hF=>?_
     refine E.opv hF (r_bin ev_c (hF.at 0 rfl) eg_scalar (ia_sub (by omega) (by omega))) rfl rfl rfl rfl fun a hF=>?_
     by_cases hc20:9223372036854775807-(skp ((((360:Int):Rat))-(phaseV (((m+1:Int):Rat)))))<m+1
     ·first
      |(exfalso;omega)
      |(refine E.opv hF (r_bin (hF.at 2 rfl) (hF.at 0 rfl) eg_scalar (bi_int (ic_gtr (c:=true) (dec_tt hc20)) (by simp))) rfl rfl rfl rfl fun a hF=>?_
        refine E.nil ?_
        refine wp_cond_true (hF.at 0 rfl) ?_
        refine wp_exit ?_
        refine E.past ?_
        refine E.pastb (by decide) ?_
        refine E.past ?_
        refine E.out (id:=0) ?_
        refine E.norm ?_
        refine wp_seq ?_
        refine E.seq ?_
        refine E.opv hF (r_assign ev_c) rfl rfl rfl rfl fun a hF=>?_
        refine E.nil ?_
        refine wp_ret ?_
        have bel:=st.bel
        refine bodyPost_ret (res_tmp Tryz.results109 (hF.at 0 rfl)) hF.dfr ?_
        exfalso;omega)
     ·first
      |(exfalso;omega)
      |(refine E.opv hF (r_bin (hF.at 2 rfl) (hF.at 0 rfl) eg_scalar (bi_int (ic_gtr (c:=false) (dec_ff hc20)) (by simp))) rfl rfl rfl rfl fun a hF=>?_
        refine E.nil ?_
        refine wp_cond_false (hF.at 0 rfl) ?_
        refine wp_skip ?_
        refine E.norm ?_
        refine wp_seq ?_
        refine E.seq ?_
        refine E.opv hF (r_move (hF.at 11 rfl)) rfl rfl rfl rfl fun a hF=>?_
        refine E.opv hF (r_move (hF.at 5 rfl)) rfl rfl rfl rfl fun a hF=>?_
        refine E.opv hF (r_bin (hF.at 1 rfl) (hF.at 0 rfl) eg_scalar (ia_add (by omega) (by omega))) rfl rfl rfl rfl fun a hF=>?_
        refine E.opset (L':=[(0,.int .i64 ((m+1)+(skp ((((360:Int):Rat))-(phaseV (((m+1:Int):Rat))))))),(20,.int .i64 ((m+1)+(skp ((((360:Int):Rat))-(phaseV (((m+1:Int):Rat))))))),(19,.int .i64 (skp ((((360:Int):Rat))-(phaseV (((m+1:Int):Rat)))))),(18,.int .i64 (m+1)),(17,.bool false),(16,.int .i64 (9223372036854775807-(skp ((((360:Int):Rat))-(phaseV (((m+1:Int):Rat))))))),(15,.int .i64 (skp ((((360:Int):Rat))-(phaseV (((m+1:Int):Rat)))))),(14,.int .i64 (m+1)),(3,.int .i64 (skp ((((360:Int):Rat))-(phaseV (((m+1:Int):Rat)))))),(13,.int .i64 (skp ((((360:Int):Rat))-(phaseV (((m+1:Int):Rat)))))),(12,.agg #[.bool b18,.slice ad18 n18 c18,.slice ae18 m18 d18]),(11,.agg #[.bool b14,.slice ad14 n14 c14,.slice ae14 m14 d14]),(10,.agg #[.bool b10,.slice ad10 n10 c10,.slice ae10 m10 d10]),(9,.int .i64 (m+1)),(8,.agg #[.bool b6,.slice ad6 n6 c6,.slice ae6 m6 d6]),(7,.int .i64 (m+1)),(6,.int .i64 m),(5,.bool true),(4,.int .i64 m)]) hF (r_assign (hF.at 0 rfl)) rfl rfl rfl rfl fun a hF=>?_
        refine E.nil ?_
        refine wp_seq ?_
        refine E.seq ?_
        refine E.opv hF (r_move (hF.at 0 rfl)) rfl rfl rfl rfl fun a hF=>?_
        refine S.callx st hF (rgc k41 (map1 (hF.at 0 rfl))) (skComes_any ((m+1)+(skp ((((360:Int):Rat))-(phaseV (((m+1:Int):Rat)))))) _ (hT.below st.bel) (by omega) (by omega)) rfl rfl rfl rfl fun w21 a st hF=>?_
        refine E.nil ?_
        by_cases hc22:comes ((m+1)+(skp ((((360:Int):Rat))-(phaseV (((m+1:Int):Rat))))))=true
        ·first
         |(exfalso;omega)
         |(refine wp_cond_true (Eq.trans (hF.at 0 rfl) (congrArg Value.bool hc22)) ?_
           refine wp_seq ?_
           refine E.seq ?_
           refine E.opv hF (r_move (hF.at 2 rfl)) rfl rfl rfl rfl fun a hF=>?_
           refine E.opv hF (r_assign (hF.at 0 rfl)) rfl rfl rfl rfl fun a hF=>?_
           refine E.nil ?_
           refine wp_ret ?_
           have bel:=st.bel
           refine bodyPost_ret (res_tmp Tryz.results109 (hF.at 0 rfl)) hF.dfr ?_
           exact⟨rv_int (nextD_is hc (by omega) (by omega) hc22),bel⟩)
        ·first
         |(exfalso;omega)
         |(refine wp_cond_false (Eq.trans (hF.at 0 rfl) (congrArg Value.bool (eq_false_of_ne_true hc22))) ?_
           refine wp_skip ?_
           refine E.blk ?_
           refine E.norm ?_
           exact⟨(nextD n-((m+1)+(skp ((((360:Int):Rat))-(phaseV (((m+1:Int):Rat))))))).toNat,by omega,⟨((m+1)+(skp ((((360:Int):Rat))-(phaseV (((m+1:Int):Rat)))))),(by omega),(nextD_no hc (by omega) (by omega) hc22),Fr.pick (L':=[(0,.int .i64 ((m+1)+(skp ((((360:Int):Rat))-(phaseV (((m+1:Int):Rat)))))))]) hF [2] rfl,st.pick [] [] rfl rfl (by decide),rfl⟩⟩)))
  ·first
   |(exfalso;omega)
   |(refine E.opv hF (r_bin (hF.at 0 rfl) ev_c eg_scalar (bi_int (ic_lss (c:=false) (dec_ff hc2)) (by simp))) rfl rfl rfl rfl fun a hF=>?_
     refine E.nil ?_
     refine wp_cond_false (hF.at 0 rfl) ?_
     refine wp_exit ?_
     refine E.past ?_
     refine E.past ?_
     refine E.out (id:=0) ?_
     refine E.norm ?_
     refine wp_seq ?_
     refine E.seq ?_
     refine E.opv hF (r_assign ev_c) rfl rfl rfl rfl fun a hF=>?_
     refine E.nil ?_
     refine wp_ret ?_
     have bel:=st.bel
     refine bodyPost_ret (res_tmp Tryz.results109 (hF.at 0 rfl)) hF.dfr ?_
     exfalso;omega)
theorem skEnters_any (n:Int) (w:World) (hT:TabD w) (hn0: -9000000000000000000≤n) (hn1:n≤9000000000000000000):
 Calls Tryz.prog 47 #[.int .i64 n] w (ValPost w (.bool (notI 0 (kI 0 ((n:Int):Rat)) (((n+1:Int)):Rat)))):=by
 have st:=St.start w
 refine E.enter (nt:=10) (L:=[(0,.int .i64 n)]) Tryz.func47 rfl rfl rfl (args_cons (i:=0) rfl args_nil) ?_
 intro a hF
 refine wp_seq ?_
 refine E.seq ?_
 refine E.opv hF (r_assign ev_c) rfl rfl rfl rfl fun a hF=>?_
 refine E.nil ?_
 refine wp_seq ?_
 refine E.seq ?_
 refine E.opv hF (r_move (hF.at 1 rfl)) rfl rfl rfl rfl fun a hF=>?_
 refine S.ck st hF (rgc k108 (map1 (hF.at 0 rfl))) (rq_ret (skDay_any n _ (by omega) (by omega)) (dnext_lim (n:=n) (by omega) (by omega))) Rl.cl rfl fun vv2 w1 a st hF=>?_
 obtain⟨b4,ad4,n4,c4,ae4,m4,d4,rfl⟩:=Rq.form (st.f 0 rfl).1
 refine S.callx st hF (rgc k31 (map1 (hF.at 0 rfl))) (oSign_any _ _ 2 _ (hT.below st.bel) (st.f 0 rfl).1 (st.f 0 rfl).2 (by omega)) rfl rfl rfl rfl fun w5 a st hF=>?_
 refine E.opv hF (r_move (hF.at 4 rfl)) rfl rfl rfl rfl fun a hF=>?_
 refine S.ck st hF (rgc k40 (map1 (hF.at 0 rfl))) (rq_ret (rWhole_any (n) _ (by omega) (by omega)) (rlim_int (limz_64 (by omega) (by omega)) (by omega))) Rl.cl rfl fun vv7 w6 a st hF=>?_
 obtain⟨b9,ad9,n9,c9,ae9,m9,d9,rfl⟩:=Rq.form (st.f 0 rfl).1
 refine S.callx st hF (rgc k31 (map1 (hF.at 0 rfl))) (oSign_any _ _ 2 _ (hT.below st.bel) (st.f 0 rfl).1 (st.f 0 rfl).2 (by omega)) rfl rfl rfl rfl fun w10 a st hF=>?_
 refine E.opv hF (r_bin (hF.at 3 rfl) (hF.at 0 rfl) eg_scalar (bi_int (ic_neq (c:=decide (prt (sunV (((n+1:Int):Rat))) 12≠prt (sunV (((n:Int):Rat))) 12)) rfl) (by simp))) rfl rfl rfl rfl fun a hF=>?_
 refine E.opset (L':=[(2,.bool (decide (prt (sunV (((n+1:Int):Rat))) 12≠prt (sunV (((n:Int):Rat))) 12))),(9,.bool (decide (prt (sunV (((n+1:Int):Rat))) 12≠prt (sunV (((n:Int):Rat))) 12))),(8,.int .i64 (prt (sunV (((n:Int):Rat))) 12)),(7,.agg #[.bool b9,.slice ad9 n9 c9,.slice ae9 m9 d9]),(6,.int .i64 n),(5,.int .i64 (prt (sunV (((n+1:Int):Rat))) 12)),(4,.agg #[.bool b4,.slice ad4 n4 c4,.slice ae4 m4 d4]),(3,.int .i64 n),(0,.int .i64 n)]) hF (r_assign (hF.at 0 rfl)) rfl rfl rfl rfl fun a hF=>?_
 refine E.nil ?_
 refine wp_ret ?_
 have bel:=st.bel
 refine bodyPost_ret (res_tmp Tryz.results47 (hF.at 0 rfl)) hF.dfr ?_
 exact⟨rfl,bel⟩
end Go.Proofs.YtnljadejcfgmaaaGreatDoor
