import Derived.Test.YtplngpfpcheofaaGreatDoorKB41
import Derived.Test.YtplngpfpcheofaaGreatDoorKB42
import Derived.Test.YtplngpfpcheofaaGreatDoorKB43
namespace Go.Proofs.YtplngpfpcheofaaGreatDoor
open Go.RowKit
set_option maxRecDepth 100000
set_option linter.unusedVariables false
set_option maxHeartbeats 8000000
theorem half_v (t:Rat):prt (phaseV t) 60=kI 4 t:=rfl
theorem tithi_v (t:Rat):prt (phaseV t) 30=kI 1 t:=rfl
theorem hv_half {t:Rat} (h:(prt (phaseV t) 60+1)%2=1):prt (phaseV (endB 4 t)) 60+1=prt (phaseV t) 60+1+1:=by
 have e:=(half_even (t:=t) h).2.1
 rw[half_v,half_v,e]
theorem hv_tithi {t:Rat} (h:(prt (phaseV t) 60+1)%2=1):prt (phaseV (endB 4 t)) 30+1=prt (phaseV t) 30+1:=by
 have e:=(half_even (t:=t) h).2.2
 rw[tithi_v,tithi_v,e]
theorem quo20:((1:Int):Rat)/((1048576:Int):Rat)=1/1048576:=by decide+kernel
theorem hv_t {t:Rat} (h:(prt (phaseV t) 60+1)%2=1):(endB 4 (endB 4 t)-endB 1 t).abs <((1:Int):Rat)/((1048576:Int):Rat):=by rw[quo20];exact halves_near (half_even (t:=t) h).1
theorem hv_f {t:Rat} (h:¬(prt (phaseV t) 60+1)%2=1):(endB 4 t-endB 1 t).abs <((1:Int):Rat)/((1048576:Int):Rat):=by rw[quo20];exact halves_near (half_odd (t:=t) h)
theorem nm_30 {n:Int} (h:comes n=true):prt (phaseV (hlo wax ((n:Int):Rat) (((n+1:Int)):Rat) 10)) 30+1=30:=by
 have e:prt (phaseV (hlo wax ((n:Int):Rat) (((n+1:Int)):Rat) 10)) 30=29:=(nm_tithi h).1
 rw[e];rfl
theorem nm_1 {n:Int} (h:comes n=true):prt (phaseV (hhi wax ((n:Int):Rat) (((n+1:Int)):Rat) 10)) 30+1=1:=by
 have e:prt (phaseV (hhi wax ((n:Int):Rat) (((n+1:Int)):Rat) 10)) 30=0:=(nm_tithi h).2
 rw[e];rfl
theorem nm_e1 {n:Int} (h:comes n=true):prt (phaseV (endB 1 (hlo wax ((n:Int):Rat) (((n+1:Int)):Rat) 10))) 30+1=1:=by
 have e:prt (phaseV (endB 1 (hlo wax ((n:Int):Rat) (((n+1:Int)):Rat) 10))) 30=0:=(nm_end h).2.2.1
 rw[e];rfl
theorem qc_ge15 {a b:Rat}:0≤qc a b↔b≤a:=by
 have h:=qc_lt15 (a:=a) (b:=b)
 constructor
 ·intro x;exact Rat.not_lt.1 fun y=>by have:=h.2 y;omega
 ·intro x;exact Int.not_lt.1 fun y=>Rat.not_lt.2 x (h.1 y)
theorem nm_last {n:Int} (h:comes n=true):endB 1 (hlo wax ((n:Int):Rat) (((n+1:Int)):Rat) 10)-hhi wax ((n:Int):Rat) (((n+1:Int)):Rat) 10<((1:Int):Rat)/((1048576:Int):Rat):=by rw[quo20];exact(nm_end h).2.2.2
theorem halves_walk (da db:Int) (w:World) (hT:TabD w):
 Calls Tryz.prog 8 #[.int .i64 da,.int .i64 db] w (ValPost w (.bool true)):=by
 have st:=St.start w
 refine E.enter (nt:=66) (L:=[(0,.int .i64 da),(1,.int .i64 db)]) Tryz.func8 rfl rfl rfl (args_cons (i:=0) rfl (args_cons (i:=1) rfl args_nil)) ?_
 intro a hF
 refine wp_seq ?_
 refine E.seq ?_
 refine E.opv hF (r_assign ev_c) rfl rfl rfl rfl fun a hF=>?_
 refine E.nil ?_
 refine wp_seq ?_
 refine wp_seq ?_
 refine E.seq ?_
 refine S.callx st hF (r_call Tryz.func39 en39.1 en39.2 map0) (live_any _) rfl rfl rfl rfl fun w1 a st hF=>?_
 refine E.opv hF (r_un (hF.at 0 rfl) (bn_not _ false rfl)) rfl rfl rfl rfl fun a hF=>?_
 refine E.nil ?_
 refine wp_cond_false (hF.at 0 rfl) ?_
 refine wp_skip ?_
 refine E.norm ?_
 refine wp_seq ?_
 refine E.seq ?_
 refine E.opv hF (r_move (hF.at 3 rfl)) rfl rfl rfl rfl fun a hF=>?_
 refine S.callx st hF (r_call Tryz.func11 en11.1 en11.2 (map1 (hF.at 0 rfl))) (inD_any da _) rfl rfl rfl rfl fun w2 a st hF=>?_
 have hin:=inD_bd da
 refine E.opv hF (r_bin ev_c (hF.at 0 rfl) eg_scalar (ia_mul (by omega) (by omega))) rfl rfl rfl rfl fun a hF=>?_
 refine E.opv hF (r_move (hF.at 7 rfl)) rfl rfl rfl rfl fun a hF=>?_
 refine E.opv hF (r_bin (hF.at 0 rfl) ev_c eg_scalar (id_and (n:=12) (by decide) (d:=4096) (by decide) (by decide))) rfl rfl rfl rfl fun a hF=>?_
 refine E.opv hF (r_bin (hF.at 2 rfl) (hF.at 0 rfl) eg_scalar (ia_add (by omega) (by omega))) rfl rfl rfl rfl fun a hF=>?_
 refine S.call st hF (r_call Tryz.func22 en22.1 en22.2 (map2 (hF.at 0 rfl) ev_c)) (rOf2_any ((4096*(inD da))+(db%4096)) (4096) _ (by omega) (by omega) (by decide) (by decide)) (fun _ _ h=>h) Rq.cl rfl rfl rfl rfl fun vv4 w3 a st hF=>?_
 obtain⟨b6,ad6,n6,c6,ae6,m6,d6,rfl⟩:=Rq.form (st.f 0 rfl)
 refine S.new st hF 0 rfl ty_Rat rfl rfl rfl rfl rfl fun g5 w7 a st hF=>?_
 refine E.nil ?_
 refine wp_seq ?_
 refine E.seq ?_
 refine E.opv hF (r_load (hF.at 0 rfl) (ld_all ty_Rat (st.bk 0 rfl) rfl)) rfl rfl rfl rfl fun a hF=>?_
 refine S.call2 st hF (r_call Tryz.func31 en31.1 en31.2 (map2 ev_c (hF.at 0 rfl))) (skEnd_any 1 _ _ 2 _ (hT.below st.bel) (st.f 0 rfl) (RLim.up (rlim_mk2 (limz_64 (by omega) (by omega)) (limz_64 (by decide) (by decide))) 2 (by decide)) (by omega) (by decide)) (fun _ _ h=>h) Rq.cl Rq.cl rfl rfl rfl rfl fun vv9 vv10 w8 a st hF=>?_
 obtain⟨b13,ad13,n13,c13,ae13,m13,d13,rfl⟩:=Rq.form (st.f 0 rfl)
 obtain⟨b14,ad14,n14,c14,ae14,m14,d14,rfl⟩:=Rq.form (st.f 1 rfl)
 refine E.opv hF (r_move (hF.at 0 rfl)) rfl rfl rfl rfl fun a hF=>?_
 refine E.opv hF (r_extract (v:= .agg #[.bool b13,.slice ad13 n13 c13,.slice ae13 m13 d13]) (hF.at 0 rfl) rfl) rfl rfl rfl rfl fun a hF=>?_
 refine E.opv hF (r_extract (v:= .agg #[.bool b14,.slice ad14 n14 c14,.slice ae14 m14 d14]) (hF.at 1 rfl) rfl) rfl rfl rfl rfl fun a hF=>?_
 refine S.alloc st hF ty_Rat rfl rfl fun g6 w15 a st hF=>?_
 refine S.alloc st hF ty_Rat rfl rfl fun g7 w16 a st hF=>?_
 refine S.sto st hF 1 rfl (hF.at 1 rfl) (hF.at 3 rfl) ty_Rat rfl rfl rfl rfl fun w17 a st hF=>?_
 refine S.sto st hF 0 rfl (hF.at 0 rfl) (hF.at 2 rfl) ty_Rat rfl rfl rfl rfl fun w18 a st hF=>?_
 refine E.nil ?_
 refine wp_seq ?_
 refine E.seq ?_
 refine E.opv hF (r_load (hF.at 7 rfl) (ld_all ty_Rat (st.bk 2 rfl) rfl)) rfl rfl rfl rfl fun a hF=>?_
 refine S.callx st hF (r_call Tryz.func40 en40.1 en40.2 (map1 (hF.at 0 rfl))) (oElem_any _ _ 2 _ (hT.below st.bel) (st.f 2 rfl) (RLim.up (rlim_mk2 (limz_64 (by omega) (by omega)) (limz_64 (by decide) (by decide))) 2 (by decide)) (by omega)) rfl rfl rfl rfl fun w19 a st hF=>?_
 have hpa904:=prt_bd (x:=phaseV ((((4096*(inD da))+(db%4096):Int):Rat)/((4096:Int):Rat))) (n:=60) (by omega) (phaseV_low _) (phaseV_high _)
 refine S.new st hF 0 rfl ty_Elem rfl rfl rfl rfl rfl fun g8 w20 a st hF=>?_
 refine E.nil ?_
 refine wp_seq ?_
 refine E.seq ?_
 refine E.opv hF (r_load (hF.at 10 rfl) (ld_all ty_Rat (st.bk 3 rfl) rfl)) rfl rfl rfl rfl fun a hF=>?_
 refine S.new st hF 0 rfl ty_Rat rfl rfl rfl rfl rfl fun g9 w21 a st hF=>?_
 refine E.nil ?_
 refine wp_seq ?_
 refine wp_seq ?_
 refine E.seq ?_
 refine E.opv hF (r_field (hF.at 2 rfl) (fa_Elem_4 (p:=4) rfl)) rfl rfl rfl rfl fun a hF=>?_
 refine E.opv hF (r_load (hF.at 0 rfl) (ldb_int (v:= .int .i64 (prt (phaseV ((((4096*(inD da))+(db%4096):Int):Rat)/((4096:Int):Rat))) 60+1)) (st.bk 1 rfl) rfl)) rfl rfl rfl rfl fun a hF=>?_
 refine E.opv hF (r_bin (hF.at 0 rfl) ev_c eg_scalar (id_remn (a:=prt (phaseV ((((4096*(inD da))+(db%4096):Int):Rat)/((4096:Int):Rat))) 60+1) (b:=2) (by omega) (by omega))) rfl rfl rfl rfl fun a hF=>?_
 by_cases hc22:(prt (phaseV ((((4096*(inD da))+(db%4096):Int):Rat)/((4096:Int):Rat))) 60+1)%2=1
 ·refine E.opv hF (r_bin (hF.at 0 rfl) ev_c eg_scalar (bi_int (ic_eql (c:=true) (dec_tt hc22)) (by simp))) rfl rfl rfl rfl fun a hF=>?_
  refine E.nil ?_
  refine wp_cond_true (hF.at 0 rfl) ?_
  refine wp_seq ?_
  refine E.seq ?_
  refine E.opv hF (r_load (hF.at 16 rfl) (ld_all ty_Rat (st.bk 4 rfl) rfl)) rfl rfl rfl rfl fun a hF=>?_
  refine S.call2 st hF (r_call Tryz.func31 en31.1 en31.2 (map2 ev_c (hF.at 0 rfl))) (skEnd_any 4 _ _ 2 _ (hT.below st.bel) (st.f 2 rfl) (RLim.up (rlim_mk2 (limz_64 (by omega) (by omega)) (limz_64 (by decide) (by decide))) 2 (by decide)) (by omega) (by decide)) (fun _ _ h=>h) Rq.cl Rq.cl rfl rfl rfl rfl fun vv24 vv25 w23 a st hF=>?_
  obtain⟨b28,ad28,n28,c28,ae28,m28,d28,rfl⟩:=Rq.form (st.f 0 rfl)
  obtain⟨b29,ad29,n29,c29,ae29,m29,d29,rfl⟩:=Rq.form (st.f 1 rfl)
  refine E.opv hF (r_move (hF.at 0 rfl)) rfl rfl rfl rfl fun a hF=>?_
  refine E.opv hF (r_extract (v:= .agg #[.bool b28,.slice ad28 n28 c28,.slice ae28 m28 d28]) (hF.at 0 rfl) rfl) rfl rfl rfl rfl fun a hF=>?_
  refine E.opv hF (r_extract (v:= .agg #[.bool b29,.slice ad29 n29 c29,.slice ae29 m29 d29]) (hF.at 1 rfl) rfl) rfl rfl rfl rfl fun a hF=>?_
  refine S.sto st hF 0 rfl (hF.at 9 rfl) (hF.at 0 rfl) ty_Rat rfl rfl rfl rfl fun w30 a st hF=>?_
  refine E.nil ?_
  refine wp_seq ?_
  refine E.seq ?_
  refine E.opv hF (r_load (hF.at 9 rfl) (ld_all ty_Rat (st.bk 0 rfl) rfl)) rfl rfl rfl rfl fun a hF=>?_
  refine S.callx st hF (r_call Tryz.func40 en40.1 en40.2 (map1 (hF.at 0 rfl))) (oElem_any _ _ (3*2+17) _ (hT.below st.bel) (st.f 1 rfl) (endB_lim (c:=4) (RLim.up (rlim_mk2 (limz_64 (by omega) (by omega)) (limz_64 (by decide) (by decide))) 2 (by decide))) (by omega)) rfl rfl rfl rfl fun w31 a st hF=>?_
  have hpa512:=prt_bd (x:=phaseV (endB 4 ((((4096*(inD da))+(db%4096):Int):Rat)/((4096:Int):Rat)))) (n:=60) (by omega) (phaseV_low _) (phaseV_high _)
  refine S.new st hF 0 rfl ty_Elem rfl rfl rfl rfl rfl fun g10 w32 a st hF=>?_
  refine E.nil ?_
  refine wp_seq ?_
  refine E.seq ?_
  refine E.opv hF (r_field (hF.at 0 rfl) (fa_Elem_4 (p:=4) rfl)) rfl rfl rfl rfl fun a hF=>?_
  refine E.opv hF (r_load (hF.at 0 rfl) (ldb_int (v:= .int .i64 (prt (phaseV (endB 4 ((((4096*(inD da))+(db%4096):Int):Rat)/((4096:Int):Rat)))) 60+1)) (st.bk 0 rfl) rfl)) rfl rfl rfl rfl fun a hF=>?_
  refine E.opv hF (r_field (hF.at 16 rfl) (fa_Elem_4 (p:=4) rfl)) rfl rfl rfl rfl fun a hF=>?_
  refine E.opv hF (r_load (hF.at 0 rfl) (ldb_int (v:= .int .i64 (prt (phaseV ((((4096*(inD da))+(db%4096):Int):Rat)/((4096:Int):Rat))) 60+1)) (st.bk 2 rfl) rfl)) rfl rfl rfl rfl fun a hF=>?_
  refine E.opv hF (r_bin (hF.at 0 rfl) ev_c eg_scalar (ia_add (by omega) (by omega))) rfl rfl rfl rfl fun a hF=>?_
  refine E.opv hF (r_bin (hF.at 3 rfl) (hF.at 0 rfl) eg_scalar (bi_int (ic_neq (c:=false) (dec_ff (fun e=>e (hv_half hc22)))) (by simp))) rfl rfl rfl rfl fun a hF=>?_
  refine E.opv hF (r_move (hF.at 0 rfl)) rfl rfl rfl rfl fun a hF=>?_
  refine E.opvg hF (r_field (hF.at 7 rfl) (fa_Elem_1 (p:=1) rfl)) (wanted_by rfl rfl (hF.at 0 rfl) rfl) rfl rfl rfl fun a hF=>?_
  refine E.opvg hF (r_load (hF.at 0 rfl) (ldb_int (v:= .int .i64 (prt (phaseV (endB 4 ((((4096*(inD da))+(db%4096):Int):Rat)/((4096:Int):Rat)))) 30+1)) (st.bk 0 rfl) rfl)) (wanted_by rfl rfl (hF.at 1 rfl) rfl) rfl rfl rfl fun a hF=>?_
  refine E.opvg hF (r_field (hF.at 23 rfl) (fa_Elem_1 (p:=1) rfl)) (wanted_by rfl rfl (hF.at 2 rfl) rfl) rfl rfl rfl fun a hF=>?_
  refine E.opvg hF (r_load (hF.at 0 rfl) (ldb_int (v:= .int .i64 (prt (phaseV ((((4096*(inD da))+(db%4096):Int):Rat)/((4096:Int):Rat))) 30+1)) (st.bk 2 rfl) rfl)) (wanted_by rfl rfl (hF.at 3 rfl) rfl) rfl rfl rfl fun a hF=>?_
  refine E.opvg hF (r_bin (hF.at 2 rfl) (hF.at 0 rfl) eg_scalar (bi_int (ic_neq (c:=false) (dec_ff (fun e=>e (hv_tithi hc22)))) (by simp))) (wanted_by rfl rfl (hF.at 4 rfl) rfl) rfl rfl rfl fun a hF=>?_
  refine E.opv hF (r_pick_f (hF.at 5 rfl) (hF.at 0 rfl)) rfl rfl rfl rfl fun a hF=>?_
  refine E.nil ?_
  refine wp_cond_false (hF.at 0 rfl) ?_
  refine wp_skip ?_
  refine E.norm ?_
  refine wp_seq ?_
  refine E.seq ?_
  refine E.opv hF (r_load (hF.at 25 rfl) (ld_all ty_Rat (st.bk 1 rfl) rfl)) rfl rfl rfl rfl fun a hF=>?_
  refine S.call2 st hF (r_call Tryz.func31 en31.1 en31.2 (map2 ev_c (hF.at 0 rfl))) (skEnd_any 4 _ _ (3*2+17) _ (hT.below st.bel) (st.f 1 rfl) (endB_lim (c:=4) (RLim.up (rlim_mk2 (limz_64 (by omega) (by omega)) (limz_64 (by decide) (by decide))) 2 (by decide))) (by omega) (by decide)) (fun _ _ h=>h) Rq.cl Rq.cl rfl rfl rfl rfl fun vv34 vv35 w33 a st hF=>?_
  obtain⟨b38,ad38,n38,c38,ae38,m38,d38,rfl⟩:=Rq.form (st.f 0 rfl)
  obtain⟨b39,ad39,n39,c39,ae39,m39,d39,rfl⟩:=Rq.form (st.f 1 rfl)
  refine E.opv hF (r_move (hF.at 0 rfl)) rfl rfl rfl rfl fun a hF=>?_
  refine E.opv hF (r_extract (v:= .agg #[.bool b38,.slice ad38 n38 c38,.slice ae38 m38 d38]) (hF.at 0 rfl) rfl) rfl rfl rfl rfl fun a hF=>?_
  refine E.opv hF (r_extract (v:= .agg #[.bool b39,.slice ad39 n39 c39,.slice ae39 m39 d39]) (hF.at 1 rfl) rfl) rfl rfl rfl rfl fun a hF=>?_
  refine S.alloc st hF ty_Rat rfl rfl fun g11 w40 a st hF=>?_
  refine S.alloc st hF ty_Rat rfl rfl fun g12 w41 a st hF=>?_
  refine S.sto st hF 1 rfl (hF.at 1 rfl) (hF.at 3 rfl) ty_Rat rfl rfl rfl rfl fun w42 a st hF=>?_
  refine S.sto st hF 0 rfl (hF.at 0 rfl) (hF.at 2 rfl) ty_Rat rfl rfl rfl rfl fun w43 a st hF=>?_
  refine E.nil ?_
  refine wp_seq ?_
  refine E.seq ?_
  refine E.opv hF (r_load (hF.at 0 rfl) (ld_all ty_Rat (st.bk 0 rfl) rfl)) rfl rfl rfl rfl fun a hF=>?_
  refine E.opv hF (r_load (hF.at 38 rfl) (ld_all ty_Rat (st.bk 5 rfl) rfl)) rfl rfl rfl rfl fun a hF=>?_
  refine S.call st hF (r_call Tryz.func37 en37.1 en37.2 (map2 (hF.at 1 rfl) (hF.at 0 rfl))) (rSub_any _ _ _ _ (max (3*(3*2+17)+17) (3*2+17)) _ (st.f 1 rfl) (st.f 5 rfl) ((endB_lim (c:=4) (endB_lim (c:=4) (RLim.up (rlim_mk2 (limz_64 (by omega) (by omega)) (limz_64 (by decide) (by decide))) 2 (by decide)))).up _ (by omega)) ((endB_lim (c:=1) (RLim.up (rlim_mk2 (limz_64 (by omega) (by omega)) (limz_64 (by decide) (by decide))) 2 (by decide))).up _ (by omega)) (by omega)) (fun _ _ h=>h) Rq.cl rfl rfl rfl rfl fun vv45 w44 a st hF=>?_
  obtain⟨b47,ad47,n47,c47,ae47,m47,d47,rfl⟩:=Rq.form (st.f 0 rfl)
  refine S.call st hF (r_call Tryz.func41 en41.1 en41.2 (map1 (hF.at 0 rfl))) (rAbs_any _ _ _ (st.f 0 rfl)) (fun _ _ h=>h) Rq.cl rfl rfl rfl rfl fun vv49 w48 a st hF=>?_
  obtain⟨b51,ad51,n51,c51,ae51,m51,d51,rfl⟩:=Rq.form (st.f 0 rfl)
  refine S.call st hF (r_call Tryz.func22 en22.1 en22.2 (map2 ev_c ev_c)) (rOf2_any (1) (1048576) _ (by decide) (by decide) (by decide) (by decide)) (fun _ _ h=>h) Rq.cl rfl rfl rfl rfl fun vv53 w52 a st hF=>?_
  obtain⟨b55,ad55,n55,c55,ae55,m55,d55,rfl⟩:=Rq.form (st.f 0 rfl)
  refine S.callx st hF (r_call Tryz.func19 en19.1 en19.2 (map2 (hF.at 1 rfl) (hF.at 0 rfl))) (rCmp_any _ _ _ _ (max ((3*(3*2+17)+17)+(3*2+17)+1) 2) _ (st.f 1 rfl) (st.f 0 rfl) ((rlim_abs (rlim_sub (endB_lim (c:=4) (endB_lim (c:=4) (RLim.up (rlim_mk2 (limz_64 (by omega) (by omega)) (limz_64 (by decide) (by decide))) 2 (by decide)))) (endB_lim (c:=1) (RLim.up (rlim_mk2 (limz_64 (by omega) (by omega)) (limz_64 (by decide) (by decide))) 2 (by decide))))).up _ (by omega)) ((RLim.up (rlim_mk2 (limz_64 (by decide) (by decide)) (limz_64 (by decide) (by decide))) 2 (by decide)).up _ (by omega)) (by omega)) rfl rfl rfl rfl fun w56 a st hF=>?_
  refine E.opv hF (r_bin (hF.at 0 rfl) ev_c eg_scalar (bi_int (ic_lss (c:=true) (dec_tt (qc_lt15.2 (hv_t hc22)))) (by simp))) rfl rfl rfl rfl fun a hF=>?_
  refine E.opset (L':=[(4,.bool true),(65,.bool true),(64,.int .i64 (qc (Rat.abs ((endB 4 (endB 4 ((((4096*(inD da))+(db%4096):Int):Rat)/((4096:Int):Rat))))-(endB 1 ((((4096*(inD da))+(db%4096):Int):Rat)/((4096:Int):Rat))))) (((1:Int):Rat)/((1048576:Int):Rat)))),(63,.agg #[.bool b55,.slice ad55 n55 c55,.slice ae55 m55 d55]),(62,.agg #[.bool b51,.slice ad51 n51 c51,.slice ae51 m51 d51]),(61,.agg #[.bool b47,.slice ad47 n47 c47,.slice ae47 m47 d47]),(60,.agg #[.bool b14,.slice ad14 n14 c14,.slice ae14 m14 d14]),(59,.agg #[.bool b39,.slice ad39 n39 c39,.slice ae39 m39 d39]),(12,.pointer (some ⟨g12,0,none⟩)),(11,.pointer (some ⟨g11,0,none⟩)),(58,.agg #[.bool b39,.slice ad39 n39 c39,.slice ae39 m39 d39]),(57,.agg #[.bool b38,.slice ad38 n38 c38,.slice ae38 m38 d38]),(54,.tuple #[.agg #[.bool b38,.slice ad38 n38 c38,.slice ae38 m38 d38],.agg #[.bool b39,.slice ad39 n39 c39,.slice ae39 m39 d39]]),(56,.tuple #[.agg #[.bool b38,.slice ad38 n38 c38,.slice ae38 m38 d38],.agg #[.bool b39,.slice ad39 n39 c39,.slice ae39 m39 d39]]),(55,.agg #[.bool b29,.slice ad29 n29 c29,.slice ae29 m29 d29]),(53,.bool false),(52,.bool false),(51,.int .i64 (prt (phaseV ((((4096*(inD da))+(db%4096):Int):Rat)/((4096:Int):Rat))) 30+1)),(50,.pointer (some ⟨g8,1,none⟩)),(49,.int .i64 (prt (phaseV (endB 4 ((((4096*(inD da))+(db%4096):Int):Rat)/((4096:Int):Rat)))) 30+1)),(48,.pointer (some ⟨g10,1,none⟩)),(47,.bool false),(46,.bool false),(45,.int .i64 ((prt (phaseV ((((4096*(inD da))+(db%4096):Int):Rat)/((4096:Int):Rat))) 60+1)+1)),(44,.int .i64 (prt (phaseV ((((4096*(inD da))+(db%4096):Int):Rat)/((4096:Int):Rat))) 60+1)),(43,.pointer (some ⟨g8,4,none⟩)),(42,.int .i64 (prt (phaseV (endB 4 ((((4096*(inD da))+(db%4096):Int):Rat)/((4096:Int):Rat)))) 60+1)),(41,.pointer (some ⟨g10,4,none⟩)),(10,.pointer (some ⟨g10,0,none⟩)),(40,.agg #[.int .i64 (prt (sunV (endB 4 ((((4096*(inD da))+(db%4096):Int):Rat)/((4096:Int):Rat)))) 12),.int .i64 (prt (phaseV (endB 4 ((((4096*(inD da))+(db%4096):Int):Rat)/((4096:Int):Rat)))) 30+1),.int .i64 (prt (moonV (endB 4 ((((4096*(inD da))+(db%4096):Int):Rat)/((4096:Int):Rat)))) 27+1),.int .i64 (prt (yogaV (endB 4 ((((4096*(inD da))+(db%4096):Int):Rat)/((4096:Int):Rat)))) 27+1),.int .i64 (prt (phaseV (endB 4 ((((4096*(inD da))+(db%4096):Int):Rat)/((4096:Int):Rat)))) 60+1)]),(39,.agg #[.bool b29,.slice ad29 n29 c29,.slice ae29 m29 d29]),(38,.agg #[.bool b29,.slice ad29 n29 c29,.slice ae29 m29 d29]),(37,.agg #[.bool b28,.slice ad28 n28 c28,.slice ae28 m28 d28]),(34,.tuple #[.agg #[.bool b28,.slice ad28 n28 c28,.slice ae28 m28 d28],.agg #[.bool b29,.slice ad29 n29 c29,.slice ae29 m29 d29]]),(36,.tuple #[.agg #[.bool b28,.slice ad28 n28 c28,.slice ae28 m28 d28],.agg #[.bool b29,.slice ad29 n29 c29,.slice ae29 m29 d29]]),(35,.agg #[.bool b6,.slice ad6 n6 c6,.slice ae6 m6 d6]),(33,.bool true),(32,.int .i64 ((prt (phaseV ((((4096*(inD da))+(db%4096):Int):Rat)/((4096:Int):Rat))) 60+1)%2)),(31,.int .i64 (prt (phaseV ((((4096*(inD da))+(db%4096):Int):Rat)/((4096:Int):Rat))) 60+1)),(30,.pointer (some ⟨g8,4,none⟩)),(9,.pointer (some ⟨g9,0,none⟩)),(29,.agg #[.bool b6,.slice ad6 n6 c6,.slice ae6 m6 d6]),(8,.pointer (some ⟨g8,0,none⟩)),(28,.agg #[.int .i64 (prt (sunV ((((4096*(inD da))+(db%4096):Int):Rat)/((4096:Int):Rat))) 12),.int .i64 (prt (phaseV ((((4096*(inD da))+(db%4096):Int):Rat)/((4096:Int):Rat))) 30+1),.int .i64 (prt (moonV ((((4096*(inD da))+(db%4096):Int):Rat)/((4096:Int):Rat))) 27+1),.int .i64 (prt (yogaV ((((4096*(inD da))+(db%4096):Int):Rat)/((4096:Int):Rat))) 27+1),.int .i64 (prt (phaseV ((((4096*(inD da))+(db%4096):Int):Rat)/((4096:Int):Rat))) 60+1)]),(27,.agg #[.bool b6,.slice ad6 n6 c6,.slice ae6 m6 d6]),(7,.pointer (some ⟨g7,0,none⟩)),(6,.pointer (some ⟨g6,0,none⟩)),(26,.agg #[.bool b14,.slice ad14 n14 c14,.slice ae14 m14 d14]),(25,.agg #[.bool b13,.slice ad13 n13 c13,.slice ae13 m13 d13]),(22,.tuple #[.agg #[.bool b13,.slice ad13 n13 c13,.slice ae13 m13 d13],.agg #[.bool b14,.slice ad14 n14 c14,.slice ae14 m14 d14]]),(24,.tuple #[.agg #[.bool b13,.slice ad13 n13 c13,.slice ae13 m13 d13],.agg #[.bool b14,.slice ad14 n14 c14,.slice ae14 m14 d14]]),(23,.agg #[.bool b6,.slice ad6 n6 c6,.slice ae6 m6 d6]),(5,.pointer (some ⟨g5,0,none⟩)),(21,.agg #[.bool b6,.slice ad6 n6 c6,.slice ae6 m6 d6]),(20,.int .i64 ((4096*(inD da))+(db%4096))),(19,.int .i64 (db%4096)),(18,.int .i64 db),(17,.int .i64 (4096*(inD da))),(16,.int .i64 (inD da)),(15,.int .i64 da),(14,.bool false),(13,.bool true),(0,.int .i64 da),(1,.int .i64 db)]) hF (r_assign (hF.at 0 rfl)) rfl rfl rfl rfl fun a hF=>?_
  refine E.nil ?_
  refine wp_ret ?_
  have bel:=st.bel
  refine bodyPost_ret (res_tmp Tryz.results8 (hF.at 0 rfl)) hF.dfr ?_
  exact⟨rfl,bel⟩
 ·refine E.opv hF (r_bin (hF.at 0 rfl) ev_c eg_scalar (bi_int (ic_eql (c:=false) (dec_ff hc22)) (by simp))) rfl rfl rfl rfl fun a hF=>?_
  refine E.nil ?_
  refine wp_cond_false (hF.at 0 rfl) ?_
  refine wp_skip ?_
  refine E.norm ?_
  refine wp_seq ?_
  refine E.seq ?_
  refine E.opv hF (r_load (hF.at 4 rfl) (ld_all ty_Rat (st.bk 0 rfl) rfl)) rfl rfl rfl rfl fun a hF=>?_
  refine S.call2 st hF (r_call Tryz.func31 en31.1 en31.2 (map2 ev_c (hF.at 0 rfl))) (skEnd_any 4 _ _ 2 _ (hT.below st.bel) (st.f 2 rfl) (RLim.up (rlim_mk2 (limz_64 (by omega) (by omega)) (limz_64 (by decide) (by decide))) 2 (by decide)) (by omega) (by decide)) (fun _ _ h=>h) Rq.cl Rq.cl rfl rfl rfl rfl fun vv58 vv59 w57 a st hF=>?_
  obtain⟨b62,ad62,n62,c62,ae62,m62,d62,rfl⟩:=Rq.form (st.f 0 rfl)
  obtain⟨b63,ad63,n63,c63,ae63,m63,d63,rfl⟩:=Rq.form (st.f 1 rfl)
  refine E.opv hF (r_move (hF.at 0 rfl)) rfl rfl rfl rfl fun a hF=>?_
  refine E.opv hF (r_extract (v:= .agg #[.bool b62,.slice ad62 n62 c62,.slice ae62 m62 d62]) (hF.at 0 rfl) rfl) rfl rfl rfl rfl fun a hF=>?_
  refine E.opv hF (r_extract (v:= .agg #[.bool b63,.slice ad63 n63 c63,.slice ae63 m63 d63]) (hF.at 1 rfl) rfl) rfl rfl rfl rfl fun a hF=>?_
  refine S.alloc st hF ty_Rat rfl rfl fun g11 w64 a st hF=>?_
  refine S.alloc st hF ty_Rat rfl rfl fun g12 w65 a st hF=>?_
  refine S.sto st hF 1 rfl (hF.at 1 rfl) (hF.at 3 rfl) ty_Rat rfl rfl rfl rfl fun w66 a st hF=>?_
  refine S.sto st hF 0 rfl (hF.at 0 rfl) (hF.at 2 rfl) ty_Rat rfl rfl rfl rfl fun w67 a st hF=>?_
  refine E.nil ?_
  refine wp_seq ?_
  refine E.seq ?_
  refine E.opv hF (r_load (hF.at 0 rfl) (ld_all ty_Rat (st.bk 0 rfl) rfl)) rfl rfl rfl rfl fun a hF=>?_
  refine E.opv hF (r_load (hF.at 17 rfl) (ld_all ty_Rat (st.bk 4 rfl) rfl)) rfl rfl rfl rfl fun a hF=>?_
  refine S.call st hF (r_call Tryz.func37 en37.1 en37.2 (map2 (hF.at 1 rfl) (hF.at 0 rfl))) (rSub_any _ _ _ _ (3*2+17) _ (st.f 1 rfl) (st.f 3 rfl) ((endB_lim (c:=4) (RLim.up (rlim_mk2 (limz_64 (by omega) (by omega)) (limz_64 (by decide) (by decide))) 2 (by decide))).up _ (by omega)) ((endB_lim (c:=1) (RLim.up (rlim_mk2 (limz_64 (by omega) (by omega)) (limz_64 (by decide) (by decide))) 2 (by decide))).up _ (by omega)) (by omega)) (fun _ _ h=>h) Rq.cl rfl rfl rfl rfl fun vv69 w68 a st hF=>?_
  obtain⟨b71,ad71,n71,c71,ae71,m71,d71,rfl⟩:=Rq.form (st.f 0 rfl)
  refine S.call st hF (r_call Tryz.func41 en41.1 en41.2 (map1 (hF.at 0 rfl))) (rAbs_any _ _ _ (st.f 0 rfl)) (fun _ _ h=>h) Rq.cl rfl rfl rfl rfl fun vv73 w72 a st hF=>?_
  obtain⟨b75,ad75,n75,c75,ae75,m75,d75,rfl⟩:=Rq.form (st.f 0 rfl)
  refine S.call st hF (r_call Tryz.func22 en22.1 en22.2 (map2 ev_c ev_c)) (rOf2_any (1) (1048576) _ (by decide) (by decide) (by decide) (by decide)) (fun _ _ h=>h) Rq.cl rfl rfl rfl rfl fun vv77 w76 a st hF=>?_
  obtain⟨b79,ad79,n79,c79,ae79,m79,d79,rfl⟩:=Rq.form (st.f 0 rfl)
  refine S.callx st hF (r_call Tryz.func19 en19.1 en19.2 (map2 (hF.at 1 rfl) (hF.at 0 rfl))) (rCmp_any _ _ _ _ (max ((3*2+17)+(3*2+17)+1) 2) _ (st.f 1 rfl) (st.f 0 rfl) ((rlim_abs (rlim_sub (endB_lim (c:=4) (RLim.up (rlim_mk2 (limz_64 (by omega) (by omega)) (limz_64 (by decide) (by decide))) 2 (by decide))) (endB_lim (c:=1) (RLim.up (rlim_mk2 (limz_64 (by omega) (by omega)) (limz_64 (by decide) (by decide))) 2 (by decide))))).up _ (by omega)) ((RLim.up (rlim_mk2 (limz_64 (by decide) (by decide)) (limz_64 (by decide) (by decide))) 2 (by decide)).up _ (by omega)) (by omega)) rfl rfl rfl rfl fun w80 a st hF=>?_
  refine E.opv hF (r_bin (hF.at 0 rfl) ev_c eg_scalar (bi_int (ic_lss (c:=true) (dec_tt (qc_lt15.2 (hv_f hc22)))) (by simp))) rfl rfl rfl rfl fun a hF=>?_
  refine E.opset (L':=[(4,.bool true),(65,.bool true),(64,.int .i64 (qc (Rat.abs ((endB 4 ((((4096*(inD da))+(db%4096):Int):Rat)/((4096:Int):Rat)))-(endB 1 ((((4096*(inD da))+(db%4096):Int):Rat)/((4096:Int):Rat))))) (((1:Int):Rat)/((1048576:Int):Rat)))),(63,.agg #[.bool b79,.slice ad79 n79 c79,.slice ae79 m79 d79]),(62,.agg #[.bool b75,.slice ad75 n75 c75,.slice ae75 m75 d75]),(61,.agg #[.bool b71,.slice ad71 n71 c71,.slice ae71 m71 d71]),(60,.agg #[.bool b14,.slice ad14 n14 c14,.slice ae14 m14 d14]),(59,.agg #[.bool b63,.slice ad63 n63 c63,.slice ae63 m63 d63]),(12,.pointer (some ⟨g12,0,none⟩)),(11,.pointer (some ⟨g11,0,none⟩)),(58,.agg #[.bool b63,.slice ad63 n63 c63,.slice ae63 m63 d63]),(57,.agg #[.bool b62,.slice ad62 n62 c62,.slice ae62 m62 d62]),(54,.tuple #[.agg #[.bool b62,.slice ad62 n62 c62,.slice ae62 m62 d62],.agg #[.bool b63,.slice ad63 n63 c63,.slice ae63 m63 d63]]),(56,.tuple #[.agg #[.bool b62,.slice ad62 n62 c62,.slice ae62 m62 d62],.agg #[.bool b63,.slice ad63 n63 c63,.slice ae63 m63 d63]]),(55,.agg #[.bool b6,.slice ad6 n6 c6,.slice ae6 m6 d6]),(33,.bool false),(32,.int .i64 ((prt (phaseV ((((4096*(inD da))+(db%4096):Int):Rat)/((4096:Int):Rat))) 60+1)%2)),(31,.int .i64 (prt (phaseV ((((4096*(inD da))+(db%4096):Int):Rat)/((4096:Int):Rat))) 60+1)),(30,.pointer (some ⟨g8,4,none⟩)),(9,.pointer (some ⟨g9,0,none⟩)),(29,.agg #[.bool b6,.slice ad6 n6 c6,.slice ae6 m6 d6]),(8,.pointer (some ⟨g8,0,none⟩)),(28,.agg #[.int .i64 (prt (sunV ((((4096*(inD da))+(db%4096):Int):Rat)/((4096:Int):Rat))) 12),.int .i64 (prt (phaseV ((((4096*(inD da))+(db%4096):Int):Rat)/((4096:Int):Rat))) 30+1),.int .i64 (prt (moonV ((((4096*(inD da))+(db%4096):Int):Rat)/((4096:Int):Rat))) 27+1),.int .i64 (prt (yogaV ((((4096*(inD da))+(db%4096):Int):Rat)/((4096:Int):Rat))) 27+1),.int .i64 (prt (phaseV ((((4096*(inD da))+(db%4096):Int):Rat)/((4096:Int):Rat))) 60+1)]),(27,.agg #[.bool b6,.slice ad6 n6 c6,.slice ae6 m6 d6]),(7,.pointer (some ⟨g7,0,none⟩)),(6,.pointer (some ⟨g6,0,none⟩)),(26,.agg #[.bool b14,.slice ad14 n14 c14,.slice ae14 m14 d14]),(25,.agg #[.bool b13,.slice ad13 n13 c13,.slice ae13 m13 d13]),(22,.tuple #[.agg #[.bool b13,.slice ad13 n13 c13,.slice ae13 m13 d13],.agg #[.bool b14,.slice ad14 n14 c14,.slice ae14 m14 d14]]),(24,.tuple #[.agg #[.bool b13,.slice ad13 n13 c13,.slice ae13 m13 d13],.agg #[.bool b14,.slice ad14 n14 c14,.slice ae14 m14 d14]]),(23,.agg #[.bool b6,.slice ad6 n6 c6,.slice ae6 m6 d6]),(5,.pointer (some ⟨g5,0,none⟩)),(21,.agg #[.bool b6,.slice ad6 n6 c6,.slice ae6 m6 d6]),(20,.int .i64 ((4096*(inD da))+(db%4096))),(19,.int .i64 (db%4096)),(18,.int .i64 db),(17,.int .i64 (4096*(inD da))),(16,.int .i64 (inD da)),(15,.int .i64 da),(14,.bool false),(13,.bool true),(0,.int .i64 da),(1,.int .i64 db)]) hF (r_assign (hF.at 0 rfl)) rfl rfl rfl rfl fun a hF=>?_
  refine E.nil ?_
  refine wp_ret ?_
  have bel:=st.bel
  refine bodyPost_ret (res_tmp Tryz.results8 (hF.at 0 rfl)) hF.dfr ?_
  exact⟨rfl,bel⟩
theorem moons_walk (da:Int) (w:World) (hT:TabD w):
 Calls Tryz.prog 9 #[.int .i64 da] w (ValPost w (.bool true)):=by
 have hin0:=inD_bd da
 have hln:=lastI_bd (inD da)
 have st:=St.start w
 refine E.enter (nt:=57) (L:=[(0,.int .i64 da)]) Tryz.func9 rfl rfl rfl (args_cons (i:=0) rfl args_nil) ?_
 intro a hF
 refine wp_seq ?_
 refine E.seq ?_
 refine E.opv hF (r_assign ev_c) rfl rfl rfl rfl fun a hF=>?_
 refine E.nil ?_
 refine wp_seq ?_
 refine wp_seq ?_
 refine E.seq ?_
 refine S.callx st hF (r_call Tryz.func39 en39.1 en39.2 map0) (live_any _) rfl rfl rfl rfl fun w1 a st hF=>?_
 refine E.opv hF (r_un (hF.at 0 rfl) (bn_not _ false rfl)) rfl rfl rfl rfl fun a hF=>?_
 refine E.nil ?_
 refine wp_cond_false (hF.at 0 rfl) ?_
 refine wp_skip ?_
 refine E.norm ?_
 refine wp_seq ?_
 refine E.seq ?_
 refine E.opv hF (r_move (hF.at 3 rfl)) rfl rfl rfl rfl fun a hF=>?_
 refine S.callx st hF (r_call Tryz.func11 en11.1 en11.2 (map1 (hF.at 0 rfl))) (inD_any da _) rfl rfl rfl rfl fun w2 a st hF=>?_
 have hin:=inD_bd da
 refine S.call st hF (r_call Tryz.func20 en20.1 en20.2 (map1 (hF.at 0 rfl))) (rWhole_any (inD da) _ (by omega) (by omega)) (fun _ _ h=>h) Rq.cl rfl rfl rfl rfl fun vv4 w3 a st hF=>?_
 obtain⟨b6,ad6,n6,c6,ae6,m6,d6,rfl⟩:=Rq.form (st.f 0 rfl)
 refine S.callx st hF (r_call Tryz.func21 en21.1 en21.2 (map1 (hF.at 0 rfl))) (skLast_any _ _ 2 _ (hT.below st.bel) (st.f 0 rfl) (rlim_int (limz_64 (by omega) (by omega)) (by omega)) (by omega) (by rw[Rat.floor_intCast];omega) (by rw[Rat.floor_intCast];omega)) rfl rfl rfl rfl fun w7 a st hF=>?_
 refine E.opv hF (r_assign (hF.at 0 rfl)) rfl rfl rfl rfl fun a hF=>?_
 refine E.nil ?_
 refine wp_seq ?_
 refine E.seq ?_
 refine E.opv hF (r_move (hF.at 0 rfl)) rfl rfl rfl rfl fun a hF=>?_
 refine S.call2 st hF (r_call Tryz.func14 en14.1 en14.2 (map1 (hF.at 0 rfl))) (skNew_any (lastV (((inD da:Int):Rat))) _ (hT.below st.bel) (by omega) (by omega)) (fun _ _ h=>h) Rq.cl Rq.cl rfl rfl rfl rfl fun vv9 vv10 w8 a st hF=>?_
 obtain⟨b13,ad13,n13,c13,ae13,m13,d13,rfl⟩:=Rq.form (st.f 0 rfl)
 obtain⟨b14,ad14,n14,c14,ae14,m14,d14,rfl⟩:=Rq.form (st.f 1 rfl)
 refine E.opv hF (r_move (hF.at 0 rfl)) rfl rfl rfl rfl fun a hF=>?_
 refine E.opv hF (r_extract (v:= .agg #[.bool b13,.slice ad13 n13 c13,.slice ae13 m13 d13]) (hF.at 0 rfl) rfl) rfl rfl rfl rfl fun a hF=>?_
 refine E.opv hF (r_extract (v:= .agg #[.bool b14,.slice ad14 n14 c14,.slice ae14 m14 d14]) (hF.at 1 rfl) rfl) rfl rfl rfl rfl fun a hF=>?_
 refine S.alloc st hF ty_Rat rfl rfl fun g4 w15 a st hF=>?_
 refine S.alloc st hF ty_Rat rfl rfl fun g5 w16 a st hF=>?_
 refine S.sto st hF 1 rfl (hF.at 1 rfl) (hF.at 3 rfl) ty_Rat rfl rfl rfl rfl fun w17 a st hF=>?_
 refine S.sto st hF 0 rfl (hF.at 0 rfl) (hF.at 2 rfl) ty_Rat rfl rfl rfl rfl fun w18 a st hF=>?_
 refine E.nil ?_
 refine wp_seq ?_
 refine E.seq ?_
 refine E.opv hF (r_load (hF.at 1 rfl) (ld_all ty_Rat (st.bk 1 rfl) rfl)) rfl rfl rfl rfl fun a hF=>?_
 refine S.call2 st hF (r_call Tryz.func31 en31.1 en31.2 (map2 ev_c (hF.at 0 rfl))) (skEnd_any 1 _ _ 14 _ (hT.below st.bel) (st.f 0 rfl) (hlo_lim (p:=wax) (i:=2) (j:=2) (lim64 (n:=lastV (((inD da:Int):Rat))) (by omega) (by omega)) (dnext_lim (n:=lastV (((inD da:Int):Rat))) (by omega) (by omega)) (by decide)) (by omega) (by decide)) (fun _ _ h=>h) Rq.cl Rq.cl rfl rfl rfl rfl fun vv20 vv21 w19 a st hF=>?_
 obtain⟨b24,ad24,n24,c24,ae24,m24,d24,rfl⟩:=Rq.form (st.f 0 rfl)
 obtain⟨b25,ad25,n25,c25,ae25,m25,d25,rfl⟩:=Rq.form (st.f 1 rfl)
 refine E.opv hF (r_move (hF.at 0 rfl)) rfl rfl rfl rfl fun a hF=>?_
 refine E.opv hF (r_extract (v:= .agg #[.bool b24,.slice ad24 n24 c24,.slice ae24 m24 d24]) (hF.at 0 rfl) rfl) rfl rfl rfl rfl fun a hF=>?_
 refine E.opv hF (r_extract (v:= .agg #[.bool b25,.slice ad25 n25 c25,.slice ae25 m25 d25]) (hF.at 1 rfl) rfl) rfl rfl rfl rfl fun a hF=>?_
 refine S.alloc st hF ty_Rat rfl rfl fun g6 w26 a st hF=>?_
 refine S.alloc st hF ty_Rat rfl rfl fun g7 w27 a st hF=>?_
 refine S.sto st hF 1 rfl (hF.at 1 rfl) (hF.at 3 rfl) ty_Rat rfl rfl rfl rfl fun w28 a st hF=>?_
 refine S.sto st hF 0 rfl (hF.at 0 rfl) (hF.at 2 rfl) ty_Rat rfl rfl rfl rfl fun w29 a st hF=>?_
 refine E.nil ?_
 refine wp_seq ?_
 refine E.seq ?_
 refine E.opv hF (r_load (hF.at 8 rfl) (ld_all ty_Rat (st.bk 3 rfl) rfl)) rfl rfl rfl rfl fun a hF=>?_
 refine S.callx st hF (r_call Tryz.func42 en42.1 en42.2 (map1 (hF.at 0 rfl))) (oTithi_any _ _ 14 _ (hT.below st.bel) (st.f 2 rfl) (hlo_lim (p:=wax) (i:=2) (j:=2) (lim64 (n:=lastV (((inD da:Int):Rat))) (by omega) (by omega)) (dnext_lim (n:=lastV (((inD da:Int):Rat))) (by omega) (by omega)) (by decide)) (by omega)) rfl rfl rfl rfl fun w30 a st hF=>?_
 refine E.opv hF (r_bin (hF.at 0 rfl) ev_c eg_scalar (bi_int (ic_eql (c:=true) (dec_tt (nm_30 hln.2.2))) (by simp))) rfl rfl rfl rfl fun a hF=>?_
 refine E.opv hF (r_move (hF.at 0 rfl)) rfl rfl rfl rfl fun a hF=>?_
 refine E.opvg hF (r_load (hF.at 11 rfl) (ld_all ty_Rat (st.bk 2 rfl) rfl)) (wanted_by rfl rfl (hF.at 0 rfl) rfl) rfl rfl rfl fun a hF=>?_
 refine S.callxg st hF (wanted_by rfl rfl (hF.at 1 rfl) rfl) (r_call Tryz.func42 en42.1 en42.2 (map1 (hF.at 0 rfl))) (oTithi_any _ _ 14 _ (hT.below st.bel) (st.f 3 rfl) (hhi_lim (p:=wax) (i:=2) (j:=2) (lim64 (n:=lastV (((inD da:Int):Rat))) (by omega) (by omega)) (dnext_lim (n:=lastV (((inD da:Int):Rat))) (by omega) (by omega)) (by decide)) (by omega)) rfl rfl rfl fun w31 a st hF=>?_
 refine E.opvg hF (r_bin (hF.at 0 rfl) ev_c eg_scalar (bi_int (ic_eql (c:=true) (dec_tt (nm_1 hln.2.2))) (by simp))) (wanted_by rfl rfl (hF.at 2 rfl) rfl) rfl rfl rfl fun a hF=>?_
 refine E.opv hF (r_pick_t (hF.at 3 rfl) (hF.at 0 rfl)) rfl rfl rfl rfl fun a hF=>?_
 refine E.opv hF (r_move (hF.at 0 rfl)) rfl rfl rfl rfl fun a hF=>?_
 refine E.opvg hF (r_load (hF.at 10 rfl) (ld_all ty_Rat (st.bk 1 rfl) rfl)) (wanted_by rfl rfl (hF.at 0 rfl) rfl) rfl rfl rfl fun a hF=>?_
 refine E.opvg hF (r_load (hF.at 18 rfl) (ld_all ty_Rat (st.bk 3 rfl) rfl)) (wanted_by rfl rfl (hF.at 1 rfl) rfl) rfl rfl rfl fun a hF=>?_
 refine S.callxg st hF (wanted_by rfl rfl (hF.at 2 rfl) rfl) (r_call Tryz.func19 en19.1 en19.2 (map2 (hF.at 1 rfl) (hF.at 0 rfl))) (rCmp_any _ _ _ _ (max (3*14+17) 14) _ (st.f 0 rfl) (st.f 2 rfl) ((endA_lim (c:=1) (hlo_lim (p:=wax) (i:=2) (j:=2) (lim64 (n:=lastV (((inD da:Int):Rat))) (by omega) (by omega)) (dnext_lim (n:=lastV (((inD da:Int):Rat))) (by omega) (by omega)) (by decide))).up _ (by omega)) ((hlo_lim (p:=wax) (i:=2) (j:=2) (lim64 (n:=lastV (((inD da:Int):Rat))) (by omega) (by omega)) (dnext_lim (n:=lastV (((inD da:Int):Rat))) (by omega) (by omega)) (by decide)).up _ (by omega)) (by omega)) rfl rfl rfl fun w32 a st hF=>?_
 refine E.opvg hF (r_bin (hF.at 0 rfl) ev_c eg_scalar (bi_int (ic_geq (c:=true) (dec_tt (qc_ge15.2 (nm_end hln.2.2).1))) (by simp))) (wanted_by rfl rfl (hF.at 3 rfl) rfl) rfl rfl rfl fun a hF=>?_
 refine E.opv hF (r_pick_t (hF.at 4 rfl) (hF.at 0 rfl)) rfl rfl rfl rfl fun a hF=>?_
 refine E.opv hF (r_move (hF.at 0 rfl)) rfl rfl rfl rfl fun a hF=>?_
 refine E.opvg hF (r_load (hF.at 16 rfl) (ld_all ty_Rat (st.bk 1 rfl) rfl)) (wanted_by rfl rfl (hF.at 0 rfl) rfl) rfl rfl rfl fun a hF=>?_
 refine E.opvg hF (r_load (hF.at 23 rfl) (ld_all ty_Rat (st.bk 2 rfl) rfl)) (wanted_by rfl rfl (hF.at 1 rfl) rfl) rfl rfl rfl fun a hF=>?_
 refine S.callxg st hF (wanted_by rfl rfl (hF.at 2 rfl) rfl) (r_call Tryz.func19 en19.1 en19.2 (map2 (hF.at 1 rfl) (hF.at 0 rfl))) (rCmp_any _ _ _ _ (max (3*14+17) 14) _ (st.f 0 rfl) (st.f 3 rfl) ((endA_lim (c:=1) (hlo_lim (p:=wax) (i:=2) (j:=2) (lim64 (n:=lastV (((inD da:Int):Rat))) (by omega) (by omega)) (dnext_lim (n:=lastV (((inD da:Int):Rat))) (by omega) (by omega)) (by decide))).up _ (by omega)) ((hhi_lim (p:=wax) (i:=2) (j:=2) (lim64 (n:=lastV (((inD da:Int):Rat))) (by omega) (by omega)) (dnext_lim (n:=lastV (((inD da:Int):Rat))) (by omega) (by omega)) (by decide)).up _ (by omega)) (by omega)) rfl rfl rfl fun w33 a st hF=>?_
 refine E.opvg hF (r_bin (hF.at 0 rfl) ev_c eg_scalar (bi_int (ic_lss (c:=true) (dec_tt (qc_lt15.2 (nm_end hln.2.2).2.1))) (by simp))) (wanted_by rfl rfl (hF.at 3 rfl) rfl) rfl rfl rfl fun a hF=>?_
 refine E.opv hF (r_pick_t (hF.at 4 rfl) (hF.at 0 rfl)) rfl rfl rfl rfl fun a hF=>?_
 refine E.opv hF (r_move (hF.at 0 rfl)) rfl rfl rfl rfl fun a hF=>?_
 refine E.opvg hF (r_load (hF.at 21 rfl) (ld_all ty_Rat (st.bk 0 rfl) rfl)) (wanted_by rfl rfl (hF.at 0 rfl) rfl) rfl rfl rfl fun a hF=>?_
 refine S.callxg st hF (wanted_by rfl rfl (hF.at 1 rfl) rfl) (r_call Tryz.func42 en42.1 en42.2 (map1 (hF.at 0 rfl))) (oTithi_any _ _ (3*14+17) _ (hT.below st.bel) (st.f 1 rfl) (endB_lim (c:=1) (hlo_lim (p:=wax) (i:=2) (j:=2) (lim64 (n:=lastV (((inD da:Int):Rat))) (by omega) (by omega)) (dnext_lim (n:=lastV (((inD da:Int):Rat))) (by omega) (by omega)) (by decide))) (by omega)) rfl rfl rfl fun w34 a st hF=>?_
 refine E.opvg hF (r_bin (hF.at 0 rfl) ev_c eg_scalar (bi_int (ic_eql (c:=true) (dec_tt (nm_e1 hln.2.2))) (by simp))) (wanted_by rfl rfl (hF.at 2 rfl) rfl) rfl rfl rfl fun a hF=>?_
 refine E.opv hF (r_pick_t (hF.at 3 rfl) (hF.at 0 rfl)) rfl rfl rfl rfl fun a hF=>?_
 refine E.opv hF (r_move (hF.at 0 rfl)) rfl rfl rfl rfl fun a hF=>?_
 refine E.opvg hF (r_load (hF.at 26 rfl) (ld_all ty_Rat (st.bk 0 rfl) rfl)) (wanted_by rfl rfl (hF.at 0 rfl) rfl) rfl rfl rfl fun a hF=>?_
 refine E.opvg hF (r_load (hF.at 34 rfl) (ld_all ty_Rat (st.bk 2 rfl) rfl)) (wanted_by rfl rfl (hF.at 1 rfl) rfl) rfl rfl rfl fun a hF=>?_
 refine S.callg st hF (wanted_by rfl rfl (hF.at 2 rfl) rfl) (r_call Tryz.func37 en37.1 en37.2 (map2 (hF.at 1 rfl) (hF.at 0 rfl))) (rSub_any _ _ _ _ (max (3*14+17) 14) _ (st.f 1 rfl) (st.f 3 rfl) ((endB_lim (c:=1) (hlo_lim (p:=wax) (i:=2) (j:=2) (lim64 (n:=lastV (((inD da:Int):Rat))) (by omega) (by omega)) (dnext_lim (n:=lastV (((inD da:Int):Rat))) (by omega) (by omega)) (by decide))).up _ (by omega)) ((hhi_lim (p:=wax) (i:=2) (j:=2) (lim64 (n:=lastV (((inD da:Int):Rat))) (by omega) (by omega)) (dnext_lim (n:=lastV (((inD da:Int):Rat))) (by omega) (by omega)) (by decide)).up _ (by omega)) (by omega)) (fun _ _ h=>h) Rq.cl rfl rfl rfl fun vv36 w35 a st hF=>?_
 obtain⟨b38,ad38,n38,c38,ae38,m38,d38,rfl⟩:=Rq.form (st.f 0 rfl)
 refine S.callg st hF (wanted_by rfl rfl (hF.at 3 rfl) rfl) (r_call Tryz.func22 en22.1 en22.2 (map2 ev_c ev_c)) (rOf2_any (1) (1048576) _ (by decide) (by decide) (by decide) (by decide)) (fun _ _ h=>h) Rq.cl rfl rfl rfl fun vv40 w39 a st hF=>?_
 obtain⟨b42,ad42,n42,c42,ae42,m42,d42,rfl⟩:=Rq.form (st.f 0 rfl)
 refine S.callxg st hF (wanted_by rfl rfl (hF.at 4 rfl) rfl) (r_call Tryz.func19 en19.1 en19.2 (map2 (hF.at 1 rfl) (hF.at 0 rfl))) (rCmp_any _ _ _ _ (max ((3*14+17)+14+1) 2) _ (st.f 1 rfl) (st.f 0 rfl) ((rlim_sub (endB_lim (c:=1) (hlo_lim (p:=wax) (i:=2) (j:=2) (lim64 (n:=lastV (((inD da:Int):Rat))) (by omega) (by omega)) (dnext_lim (n:=lastV (((inD da:Int):Rat))) (by omega) (by omega)) (by decide))) (hhi_lim (p:=wax) (i:=2) (j:=2) (lim64 (n:=lastV (((inD da:Int):Rat))) (by omega) (by omega)) (dnext_lim (n:=lastV (((inD da:Int):Rat))) (by omega) (by omega)) (by decide))).up _ (by omega)) ((RLim.up (rlim_mk2 (limz_64 (by decide) (by decide)) (limz_64 (by decide) (by decide))) 2 (by decide)).up _ (by omega)) (by omega)) rfl rfl rfl fun w43 a st hF=>?_
 refine E.opvg hF (r_bin (hF.at 0 rfl) ev_c eg_scalar (bi_int (ic_lss (c:=true) (dec_tt (qc_lt15.2 (nm_last hln.2.2)))) (by simp))) (wanted_by rfl rfl (hF.at 5 rfl) rfl) rfl rfl rfl fun a hF=>?_
 refine E.opv hF (r_pick_t (hF.at 6 rfl) (hF.at 0 rfl)) rfl rfl rfl rfl fun a hF=>?_
 refine E.opset (L':=[(2,.bool true),(56,.bool true),(55,.bool true),(54,.int .i64 (qc ((endB 1 (hlo wax ((lastV (((inD da:Int):Rat)):Int):Rat) ((lastV (((inD da:Int):Rat))+1:Int):Rat) 10))-(hhi wax ((lastV (((inD da:Int):Rat)):Int):Rat) ((lastV (((inD da:Int):Rat))+1:Int):Rat) 10)) (((1:Int):Rat)/((1048576:Int):Rat)))),(53,.agg #[.bool b42,.slice ad42 n42 c42,.slice ae42 m42 d42]),(52,.agg #[.bool b38,.slice ad38 n38 c38,.slice ae38 m38 d38]),(51,.agg #[.bool b14,.slice ad14 n14 c14,.slice ae14 m14 d14]),(50,.agg #[.bool b25,.slice ad25 n25 c25,.slice ae25 m25 d25]),(49,.bool true),(48,.bool true),(47,.bool true),(46,.int .i64 (prt (phaseV (endB 1 (hlo wax ((lastV (((inD da:Int):Rat)):Int):Rat) ((lastV (((inD da:Int):Rat))+1:Int):Rat) 10))) 30+1)),(45,.agg #[.bool b25,.slice ad25 n25 c25,.slice ae25 m25 d25]),(44,.bool true),(43,.bool true),(42,.bool true),(41,.int .i64 (qc (endA 1 (hlo wax ((lastV (((inD da:Int):Rat)):Int):Rat) ((lastV (((inD da:Int):Rat))+1:Int):Rat) 10)) (hhi wax ((lastV (((inD da:Int):Rat)):Int):Rat) ((lastV (((inD da:Int):Rat))+1:Int):Rat) 10))),(40,.agg #[.bool b14,.slice ad14 n14 c14,.slice ae14 m14 d14]),(39,.agg #[.bool b24,.slice ad24 n24 c24,.slice ae24 m24 d24]),(38,.bool true),(37,.bool true),(36,.bool true),(35,.int .i64 (qc (endA 1 (hlo wax ((lastV (((inD da:Int):Rat)):Int):Rat) ((lastV (((inD da:Int):Rat))+1:Int):Rat) 10)) (hlo wax ((lastV (((inD da:Int):Rat)):Int):Rat) ((lastV (((inD da:Int):Rat))+1:Int):Rat) 10))),(34,.agg #[.bool b13,.slice ad13 n13 c13,.slice ae13 m13 d13]),(33,.agg #[.bool b24,.slice ad24 n24 c24,.slice ae24 m24 d24]),(32,.bool true),(31,.bool true),(30,.bool true),(29,.int .i64 (prt (phaseV (hhi wax ((lastV (((inD da:Int):Rat)):Int):Rat) ((lastV (((inD da:Int):Rat))+1:Int):Rat) 10)) 30+1)),(28,.agg #[.bool b14,.slice ad14 n14 c14,.slice ae14 m14 d14]),(27,.bool true),(26,.bool true),(25,.int .i64 (prt (phaseV (hlo wax ((lastV (((inD da:Int):Rat)):Int):Rat) ((lastV (((inD da:Int):Rat))+1:Int):Rat) 10)) 30+1)),(24,.agg #[.bool b13,.slice ad13 n13 c13,.slice ae13 m13 d13]),(7,.pointer (some ⟨g7,0,none⟩)),(6,.pointer (some ⟨g6,0,none⟩)),(23,.agg #[.bool b25,.slice ad25 n25 c25,.slice ae25 m25 d25]),(22,.agg #[.bool b24,.slice ad24 n24 c24,.slice ae24 m24 d24]),(19,.tuple #[.agg #[.bool b24,.slice ad24 n24 c24,.slice ae24 m24 d24],.agg #[.bool b25,.slice ad25 n25 c25,.slice ae25 m25 d25]]),(21,.tuple #[.agg #[.bool b24,.slice ad24 n24 c24,.slice ae24 m24 d24],.agg #[.bool b25,.slice ad25 n25 c25,.slice ae25 m25 d25]]),(20,.agg #[.bool b13,.slice ad13 n13 c13,.slice ae13 m13 d13]),(5,.pointer (some ⟨g5,0,none⟩)),(4,.pointer (some ⟨g4,0,none⟩)),(18,.agg #[.bool b14,.slice ad14 n14 c14,.slice ae14 m14 d14]),(17,.agg #[.bool b13,.slice ad13 n13 c13,.slice ae13 m13 d13]),(14,.tuple #[.agg #[.bool b13,.slice ad13 n13 c13,.slice ae13 m13 d13],.agg #[.bool b14,.slice ad14 n14 c14,.slice ae14 m14 d14]]),(16,.tuple #[.agg #[.bool b13,.slice ad13 n13 c13,.slice ae13 m13 d13],.agg #[.bool b14,.slice ad14 n14 c14,.slice ae14 m14 d14]]),(15,.int .i64 (lastV (((inD da:Int):Rat)))),(3,.int .i64 (lastV (((inD da:Int):Rat)))),(13,.int .i64 (lastV (((inD da:Int):Rat)))),(12,.agg #[.bool b6,.slice ad6 n6 c6,.slice ae6 m6 d6]),(11,.int .i64 (inD da)),(10,.int .i64 da),(9,.bool false),(8,.bool true),(0,.int .i64 da)]) hF (r_assign (hF.at 0 rfl)) rfl rfl rfl rfl fun a hF=>?_
 refine E.nil ?_
 refine wp_ret ?_
 have bel:=st.bel
 refine bodyPost_ret (res_tmp Tryz.results9 (hF.at 0 rfl)) hF.dfr ?_
 exact⟨rfl,bel⟩
end Go.Proofs.YtplngpfpcheofaaGreatDoor
