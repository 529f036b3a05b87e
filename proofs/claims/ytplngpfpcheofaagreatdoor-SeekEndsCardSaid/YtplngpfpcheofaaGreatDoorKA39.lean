import Derived.Test.YtplngpfpcheofaaGreatDoorKA26
import Derived.Test.YtplngpfpcheofaaGreatDoorKA29
import Derived.Test.YtplngpfpcheofaaGreatDoorKA30
namespace Go.Proofs.YtplngpfpcheofaaGreatDoor
open Go.RowKit
set_option maxRecDepth 100000
set_option linter.unusedVariables false
set_option maxHeartbeats 8000000
theorem en43:(Tryz.f43.name == "runtime.NumGoroutine")=false∧Tryz.f43.body.isNone=false:=⟨by decide+kernel,by kernel_rfl⟩
theorem en47:(Tryz.f47.name == "runtime.NumGoroutine")=false∧Tryz.f47.body.isNone=false:=⟨by decide+kernel,by kernel_rfl⟩
theorem en50:(Tryz.f50.name == "runtime.NumGoroutine")=false∧Tryz.f50.body.isNone=false:=⟨by decide+kernel,by kernel_rfl⟩
theorem en46:(Tryz.f46.name == "runtime.NumGoroutine")=false∧Tryz.f46.body.isNone=false:=⟨by decide+kernel,by kernel_rfl⟩
theorem en12:(Tryz.f12.name == "runtime.NumGoroutine")=false∧Tryz.f12.body.isNone=false:=⟨by decide+kernel,by kernel_rfl⟩
theorem en49:(Tryz.f49.name == "runtime.NumGoroutine")=false∧Tryz.f49.body.isNone=false:=⟨by decide+kernel,by kernel_rfl⟩
theorem en14:(Tryz.f14.name == "runtime.NumGoroutine")=false∧Tryz.f14.body.isNone=false:=⟨by decide+kernel,by kernel_rfl⟩
theorem en65:(Tryz.f65.name == "runtime.NumGoroutine")=false∧Tryz.f65.body.isNone=false:=⟨by decide+kernel,by kernel_rfl⟩
theorem en21:(Tryz.f21.name == "runtime.NumGoroutine")=false∧Tryz.f21.body.isNone=false:=⟨by decide+kernel,by kernel_rfl⟩
theorem en24:(Tryz.f24.name == "runtime.NumGoroutine")=false∧Tryz.f24.body.isNone=false:=⟨by decide+kernel,by kernel_rfl⟩
theorem en27:(Tryz.f27.name == "runtime.NumGoroutine")=false∧Tryz.f27.body.isNone=false:=⟨by decide+kernel,by kernel_rfl⟩
theorem en28:(Tryz.f28.name == "runtime.NumGoroutine")=false∧Tryz.f28.body.isNone=false:=⟨by decide+kernel,by kernel_rfl⟩
theorem en72:(Tryz.f72.name == "runtime.NumGoroutine")=false∧Tryz.f72.body.isNone=false:=⟨by decide+kernel,by kernel_rfl⟩
theorem en36:(Tryz.f36.name == "runtime.NumGoroutine")=false∧Tryz.f36.body.isNone=false:=⟨by decide+kernel,by kernel_rfl⟩
theorem en33:(Tryz.f33.name == "runtime.NumGoroutine")=false∧Tryz.f33.body.isNone=false:=⟨by decide+kernel,by kernel_rfl⟩
theorem en76:(Tryz.f76.name == "runtime.NumGoroutine")=false∧Tryz.f76.body.isNone=false:=⟨by decide+kernel,by kernel_rfl⟩
theorem en31:(Tryz.f31.name == "runtime.NumGoroutine")=false∧Tryz.f31.body.isNone=false:=⟨by decide+kernel,by kernel_rfl⟩
theorem en74:(Tryz.f74.name == "runtime.NumGoroutine")=false∧Tryz.f74.body.isNone=false:=⟨by decide+kernel,by kernel_rfl⟩
def wax (t:Rat):Bool:=!full t
def cmT (n:Int) (t:Rat):Bool:=full ((n:Int):Rat) && wax t
theorem cmT_day (n:Int):cmT n (((n+1:Int)):Rat)=comes n:=rfl
theorem qc_lt15 {a b:Rat}:qc a b<0↔a<b:=by
 rw[qc_def]
 split
 ·rename_i h;exact⟨fun _=>h,fun _=>by decide⟩
 ·rename_i h;exact⟨fun e=>absurd e (by split <;> decide),fun e=>absurd e h⟩
theorem wax_qc (t:Rat):decide (qc (phaseV t) ((180:Int):Rat)<0)=wax t:=by
 unfold wax full
 by_cases h:phaseV t<((180:Int):Rat)
 ·rw[decide_eq_true (qc_lt15.2 h),decide_eq_false (by grind)];rfl
 ·rw[decide_eq_false (fun e=>h (qc_lt15.1 e)),decide_eq_true (by grind)];rfl
theorem skp_bd {x:Rat} (h0:0≤x) (h1:x≤((360:Int):Rat)):0≤skp x∧skp x≤26:=by
 rw[show((360:Int):Rat)=360 from rfl] at h1
 exact⟨skp_ge h0,by have:=skp_le (x:=x) (m:=27) (by rw[show((27:Int):Rat)=27 from rfl];grind) (by decide);omega⟩
theorem dnext_lim {n:Int} (h0: -9223372036854775808≤n) (h1:n≤9223372036854775807):RLim (((n+1:Int)):Rat) 2:=
 rlim_int (show(n+1).natAbs <B32^2 from by rw[show B32^2=18446744073709551616 from rfl];omega) (by decide)
def kP (c:Int):Int:=if 0≤c∧c≤4 then kN c else 0
def kX (c:Int) (t:Rat):Int:=if 0≤c∧c≤4 then kI c t else 0
def notX (c was:Int) (x:Rat):Bool:=decide (kX c x≠was)
theorem kX_is {c:Int} (h0:0≤c) (h1:c≤4) (t:Rat):kX c t=kI c t:=if_pos ⟨h0,h1⟩
theorem kX_no {c:Int} (h:¬(0≤c∧c≤4)) (t:Rat):kX c t=0:=if_neg h
theorem kX_bd (c:Int) (t:Rat):0≤kX c t∧kX c t≤59:=by
 unfold kX
 split
 ·rename_i h
  have:=kI_bd h.1 h.2 t
  have:=kN_bd c
  omega
 ·omega
theorem kQ_lim (c:Int):RLim (kQ c) 1:=by
 unfold kQ
 split
 ·exact rlim_int (z:=1) (show(1:Int).natAbs <B32^1 by decide+kernel) (by decide)
 ·exact⟨show(1/4:Rat).num.natAbs <B32^1 by decide+kernel,show(1/4:Rat).den <B32^1 by decide+kernel⟩
theorem fill5 {place:Nat→Option (Nat×Nat)} {cells:Array Value} {i off:Nat} {k:IntKind} {z:Int} {rest:List (Nat×Value)} (hp:place i=some (off,1)) (hc:off+1≤cells.size):
 Instr.fill place cells ((i,.int k z)::rest)=Instr.fill place (cells.setIfInBounds off (.int k z)) rest:=by
 conv=>lhs;unfold Instr.fill
 rw[hp]
 have h1:(Value.int k z).cells =#[.int k z]:=rfl
 simp only [h1]
 rw[if_neg (by simp;omega)]
 rfl
theorem sz_A5:(Tryz.prog.info? 87).map (·.size)=some 5:=by kernel_rfl
theorem ze_A5:(Tryz.prog.info? 87).bind (·.zero)=some (.agg #[.int .i64 0,.int .i64 0,.int .i64 0,.int .i64 0,.int .i64 0]):=by kernel_rfl
theorem bd_A5_01234 (z0 z1 z2 z3 z4:Int) (w:World):(Instr.build 87 #[(0,.int .i64 z0),(1,.int .i64 z1),(2,.int .i64 z2),(3,.int .i64 z3),(4,.int .i64 z4)]).run Tryz.prog w= .ok (.agg #[.int .i64 z0,.int .i64 z1,.int .i64 z2,.int .i64 z3,.int .i64 z4]) w:=by
 have hz:=zero_run ze_A5 w
 have hs:∀w,(sizeOf 3).run Tryz.prog w= .ok 1 w:=fun w=>size_run sz_int w
 simp only [Instr.build,Sem.run_bind,hz,Result.andThen_ok,run_underlying Tryz.underlying87,hs]
 rw[show(Value.agg #[Value.int .i64 0,Value.int .i64 0,Value.int .i64 0,Value.int .i64 0,Value.int .i64 0]).cells =#[Value.int .i64 0,Value.int .i64 0,Value.int .i64 0,Value.int .i64 0,Value.int .i64 0] from rfl]
 rw[fill5 (off:=0) rfl (by simp),fill5 (off:=1) rfl (by simp),fill5 (off:=2) rfl (by simp),fill5 (off:=3) rfl (by simp),fill5 (off:=4) rfl (by simp)]
 simp only [List.setIfInBounds_toArray,List.set_cons_zero,List.set_cons_succ]
 rfl
theorem ix_A5 {w:World} {g:Nat} {i:Int} (h0:0≤i) (h1:i<5):(Instr.indexAt 87 (.pointer (some ⟨g,0,none⟩)) (.int .i64 i)).run Tryz.prog w= .ok (.pointer (some ⟨g,i.toNat,none⟩)) w:=by
 have hs:∀w,(sizeOf 3).run Tryz.prog w= .ok 1 w:=fun w=>size_run sz_int w
 simp[Instr.indexAt,asIntOf,Instr.sureAddr,run_underlying Tryz.underlying87,Sem.run_bind,h0,h1,Addr.add_mid,hs]
theorem ty_A5:Ty Tryz.prog 87 5 [.int .i64 0,.int .i64 0,.int .i64 0,.int .i64 0,.int .i64 0]:=⟨⟨_,Tryz.underlying87,rfl⟩,sz_A5,ze_A5⟩
theorem kN_ix {c:Int} (h0:0≤c) (h1:c<5):([12,30,27,27,60].map fun z=>Value.int .i64 z)[c.toNat]?=some (.int .i64 (kN c)):=by
 have h:c=0∨c=1∨c=2∨c=3∨c=4:=by omega
 rcases h with rfl|rfl|rfl|rfl|rfl <;> rfl
theorem kX_0 (t:Rat):kX 0 t=prt (sunV t) 12:=rfl
theorem kX_1 (t:Rat):kX 1 t=prt (phaseV t) 30:=rfl
theorem kX_2 (t:Rat):kX 2 t=prt (moonV t) 27:=rfl
theorem kX_3 (t:Rat):kX 3 t=prt (yogaV t) 27:=rfl
theorem kX_4 (t:Rat):kX 4 t=prt (phaseV t) 60:=rfl
theorem kX_o {c:Int} (t:Rat) (h0:¬c=0) (h1:¬c=1) (h2:¬c=2) (h3:¬c=3) (h4:¬c=4):kX c t=0:=kX_no (by omega) t
theorem skDay_any (n:Int) (w:World) (hn0: -9223372036854775808≤n) (hn1:n≤9223372036854775807):
 Calls Tryz.prog 47 #[.int .i64 n] w (RqPost w (((n+1:Int)):Rat)):=by
 have st:=St.start w
 refine E.enter (nt:=7) (L:=[(0,.int .i64 n)]) Tryz.func47 rfl rfl rfl (args_cons (i:=0) rfl args_nil) ?_
 intro a hF
 refine wp_seq ?_
 refine E.seq ?_
 refine S.alloc st hF ty_Rat rfl rfl fun g2 w1 a st hF=>?_
 refine E.nil ?_
 refine wp_seq ?_
 refine E.seq ?_
 refine E.opv hF (r_move (hF.at 1 rfl)) rfl rfl rfl rfl fun a hF=>?_
 refine S.call st hF (r_call Tryz.func20 en20.1 en20.2 (map1 (hF.at 0 rfl))) (rWhole_any (n) _ (by omega) (by omega)) (fun _ _ h=>h) Rq.cl rfl rfl rfl rfl fun vv3 w2 a st hF=>?_
 obtain⟨b5,ad5,n5,c5,ae5,m5,d5,rfl⟩:=Rq.form (st.f 0 rfl)
 refine S.call st hF (r_call Tryz.func20 en20.1 en20.2 (map1 ev_c)) (rWhole_any (1) _ (by decide) (by decide)) (fun _ _ h=>h) Rq.cl rfl rfl rfl rfl fun vv7 w6 a st hF=>?_
 obtain⟨b9,ad9,n9,c9,ae9,m9,d9,rfl⟩:=Rq.form (st.f 0 rfl)
 refine S.call st hF (r_call Tryz.func75 en75.1 en75.2 (map2 (hF.at 1 rfl) (hF.at 0 rfl))) (rAdd_any _ _ _ _ 2 _ (st.f 1 rfl) (st.f 0 rfl) ((rlim_int (limz_64 (by omega) (by omega)) (by omega)).up _ (by omega)) ((rlim_int (limz_64 (by decide) (by decide)) (by omega)).up _ (by omega)) (by omega)) (fun _ _ h=>h) Rq.cl rfl rfl rfl rfl fun vv11 w10 a st hF=>?_
 obtain⟨b13,ad13,n13,c13,ae13,m13,d13,rfl⟩:=Rq.form (st.f 0 rfl)
 refine S.sto st hF 0 rfl (hF.at 4 rfl) (hF.at 0 rfl) ty_Rat rfl rfl rfl rfl fun w14 a st hF=>?_
 refine E.nil ?_
 refine wp_ret ?_
 refine S.ret Tryz.results47 st hF (hF.at 4 rfl) 0 rfl ty_Rat rfl hF.dfr ?_
 have bel:=st.bel
 exact⟨_,rfl,Rq.castM (st.f 0 rfl) (by rw[Rat.intCast_add]),bel⟩
theorem skWax_any (v1:Value) (qt:Rat) (k:Nat) (w:World) (hT:TabD w) (h1:Rq w v1 qt) (hl:RLim qt k) (hk:k≤100):
 Calls Tryz.prog 50 #[v1] w (ValPost w (.bool (wax qt))):=by
 have st:=St.start w
 refine E.enter (nt:=8) (L:=[(0,v1)]) Tryz.func50 rfl rfl rfl (args_cons (i:=0) rfl args_nil) ?_
 intro a hF
 refine wp_seq ?_
 refine E.seq ?_
 obtain⟨b2,ad2,n2,c2,ae2,m2,d2,rfl⟩:=Rq.form h1
 refine S.box st hF (hF.at 0 rfl) rfl rfl fun g1 w1 a st hF=>?_
 refine E.opv hF (r_assign ev_c) rfl rfl rfl rfl fun a hF=>?_
 refine E.nil ?_
 refine wp_seq ?_
 refine E.seq ?_
 refine E.opv hF (r_load (hF.at 1 rfl) (ld_all ty_Rat (st.bk 0 rfl) rfl)) rfl rfl rfl rfl fun a hF=>?_
 refine S.call st hF (r_call Tryz.func18 en18.1 en18.2 (map1 (hF.at 0 rfl))) (oPhase_any _ (qt) k _ (hT.below st.bel) (h1.below st.bel) hl (by omega)) (fun _ _ h=>h) Rq.cl rfl rfl rfl rfl fun vv4 w3 a st hF=>?_
 obtain⟨b6,ad6,n6,c6,ae6,m6,d6,rfl⟩:=Rq.form (st.f 0 rfl)
 refine S.call st hF (r_call Tryz.func20 en20.1 en20.2 (map1 ev_c)) (rWhole_any (180) _ (by decide) (by decide)) (fun _ _ h=>h) Rq.cl rfl rfl rfl rfl fun vv8 w7 a st hF=>?_
 obtain⟨b10,ad10,n10,c10,ae10,m10,d10,rfl⟩:=Rq.form (st.f 0 rfl)
 refine S.callx st hF (r_call Tryz.func19 en19.1 en19.2 (map2 (hF.at 1 rfl) (hF.at 0 rfl))) (rCmp_any _ _ _ _ (max (6*k+210) 2) _ (st.f 1 rfl) (st.f 0 rfl) ((phaseV_lim hl).up _ (by omega)) ((rlim_int (limz_64 (by decide) (by decide)) (by omega)).up _ (by omega)) (by omega)) rfl rfl rfl rfl fun w11 a st hF=>?_
 refine E.opv hF (r_bin (hF.at 0 rfl) ev_c eg_scalar (bi_int (ic_lss (c:=decide (qc (phaseV (qt)) (((180:Int):Rat))<0)) rfl) (by simp))) rfl rfl rfl rfl fun a hF=>?_
 refine E.opset (L':=[(2,.bool (decide (qc (phaseV (qt)) (((180:Int):Rat))<0))),(7,.bool (decide (qc (phaseV (qt)) (((180:Int):Rat))<0))),(6,.int .i64 (qc (phaseV (qt)) (((180:Int):Rat)))),(5,.agg #[.bool b10,.slice ad10 n10 c10,.slice ae10 m10 d10]),(4,.agg #[.bool b6,.slice ad6 n6 c6,.slice ae6 m6 d6]),(3,.agg #[.bool b2,.slice ad2 n2 c2,.slice ae2 m2 d2]),(1,.pointer (some ⟨g1,0,none⟩)),(0,.agg #[.bool b2,.slice ad2 n2 c2,.slice ae2 m2 d2])]) hF (r_assign (hF.at 0 rfl)) rfl rfl rfl rfl fun a hF=>?_
 refine E.nil ?_
 refine wp_ret ?_
 have bel:=st.bel
 refine bodyPost_ret (res_tmp Tryz.results50 (hF.at 0 rfl)) hF.dfr ?_
 exact⟨by rw[wax_qc],bel⟩
theorem ask_wax (w:World) (hT:TabD w):AskP w 50 #[] 100 wax:=
 ⟨⟨_,Tryz.func50,en50.1,en50.2⟩,fun v q w' hb hv hl=>skWax_any v q 100 w' (hT.below hb) hv hl (by decide)⟩
theorem cmT_f {n:Int} {t:Rat} (h:wax ((n:Int):Rat)=true):cmT n t=false:=by
 unfold cmT
 unfold wax at h
 rw[show full ((n:Int):Rat)=false by simpa using h];rfl
theorem cmT_t {n:Int} {t:Rat} (h:¬wax ((n:Int):Rat)=true):cmT n t=wax t:=by
 unfold cmT
 rw[show full ((n:Int):Rat)=true by unfold wax at h;simpa using h];rfl
theorem skComesT_any (n:Int) (v1:Value) (qt:Rat) (k:Nat) (w:World) (hT:TabD w) (h1:Rq w v1 qt) (hl:RLim qt k) (hk:k≤100) (hn0: -9000000000000000000≤n) (hn1:n≤9000000000000000000):
 Calls Tryz.prog 46 #[.int .i64 n,v1] w (ValPost w (.bool (cmT n qt))):=by
 have st:=St.start w
 refine E.enter (nt:=13) (L:=[(0,.int .i64 n),(1,v1)]) Tryz.func46 rfl rfl rfl (args_cons (i:=0) rfl (args_cons (i:=1) rfl args_nil)) ?_
 intro a hF
 refine wp_seq ?_
 refine E.seq ?_
 obtain⟨b2,ad2,n2,c2,ae2,m2,d2,rfl⟩:=Rq.form h1
 refine S.box st hF (hF.at 1 rfl) rfl rfl fun g3 w1 a st hF=>?_
 refine E.opv hF (r_assign ev_c) rfl rfl rfl rfl fun a hF=>?_
 refine E.nil ?_
 refine wp_seq ?_
 refine E.seq ?_
 refine E.opv hF (r_move (hF.at 2 rfl)) rfl rfl rfl rfl fun a hF=>?_
 refine S.call st hF (r_call Tryz.func20 en20.1 en20.2 (map1 (hF.at 0 rfl))) (rWhole_any (n) _ (by omega) (by omega)) (fun _ _ h=>h) Rq.cl rfl rfl rfl rfl fun vv4 w3 a st hF=>?_
 obtain⟨b6,ad6,n6,c6,ae6,m6,d6,rfl⟩:=Rq.form (st.f 0 rfl)
 refine S.callx st hF (r_call Tryz.func50 en50.1 en50.2 (map1 (hF.at 0 rfl))) (skWax_any _ _ 2 _ (hT.below st.bel) (st.f 0 rfl) (rlim_int (limz_64 (by omega) (by omega)) (by omega)) (by omega)) rfl rfl rfl rfl fun w7 a st hF=>?_
 by_cases hc8:wax (((n:Int):Rat))=true
 ·first
  |(exfalso;omega)
  |(refine E.opv hF (r_un (Eq.trans (hF.at 0 rfl) (congrArg Value.bool hc8)) (bn_not _ false rfl)) rfl rfl rfl rfl fun a hF=>?_
    refine E.opv hF (r_move (hF.at 0 rfl)) rfl rfl rfl rfl fun a hF=>?_
    refine E.unwanted hF (wanted_by rfl rfl (hF.at 0 rfl) rfl) rfl rfl rfl fun a hF=>?_
    refine E.unwanted hF (wanted_by rfl rfl (hF.at 1 rfl) rfl) rfl rfl rfl fun a hF=>?_
    refine E.opv hF (r_pick_f (hF.at 2 rfl) ev_c) rfl rfl rfl rfl fun a hF=>?_
    refine E.opset (L':=[(4,.bool false),(12,.bool false),(11,undef),(10,undef),(9,.bool false),(8,.bool false),(7,.bool (wax (((n:Int):Rat)))),(6,.agg #[.bool b6,.slice ad6 n6 c6,.slice ae6 m6 d6]),(5,.int .i64 n),(3,.pointer (some ⟨g3,0,none⟩)),(0,.int .i64 n),(1,.agg #[.bool b2,.slice ad2 n2 c2,.slice ae2 m2 d2])]) hF (r_assign (hF.at 0 rfl)) rfl rfl rfl rfl fun a hF=>?_
    refine E.nil ?_
    refine wp_ret ?_
    have bel:=st.bel
    refine bodyPost_ret (res_tmp Tryz.results46 (hF.at 0 rfl)) hF.dfr ?_
    exact⟨by rw[cmT_f hc8],bel⟩)
 ·first
  |(exfalso;omega)
  |(refine E.opv hF (r_un (Eq.trans (hF.at 0 rfl) (congrArg Value.bool (eq_false_of_ne_true hc8))) (bn_not _ true rfl)) rfl rfl rfl rfl fun a hF=>?_
    refine E.opv hF (r_move (hF.at 0 rfl)) rfl rfl rfl rfl fun a hF=>?_
    refine E.opvg hF (r_load (hF.at 6 rfl) (ld_all ty_Rat (st.bk 0 rfl) rfl)) (wanted_by rfl rfl (hF.at 0 rfl) rfl) rfl rfl rfl fun a hF=>?_
    refine S.callxg st hF (wanted_by rfl rfl (hF.at 1 rfl) rfl) (r_call Tryz.func50 en50.1 en50.2 (map1 (hF.at 0 rfl))) (skWax_any _ (qt) k _ (hT.below st.bel) (h1.below st.bel) hl (by omega)) rfl rfl rfl fun w9 a st hF=>?_
    refine E.opv hF (r_pick_t (hF.at 2 rfl) (hF.at 0 rfl)) rfl rfl rfl rfl fun a hF=>?_
    refine E.opset (L':=[(4,.bool (wax (qt))),(12,.bool (wax (qt))),(11,.bool (wax (qt))),(10,.agg #[.bool b2,.slice ad2 n2 c2,.slice ae2 m2 d2]),(9,.bool true),(8,.bool true),(7,.bool (wax (((n:Int):Rat)))),(6,.agg #[.bool b6,.slice ad6 n6 c6,.slice ae6 m6 d6]),(5,.int .i64 n),(3,.pointer (some ⟨g3,0,none⟩)),(0,.int .i64 n),(1,.agg #[.bool b2,.slice ad2 n2 c2,.slice ae2 m2 d2])]) hF (r_assign (hF.at 0 rfl)) rfl rfl rfl rfl fun a hF=>?_
    refine E.nil ?_
    refine wp_ret ?_
    have bel:=st.bel
    refine bodyPost_ret (res_tmp Tryz.results46 (hF.at 0 rfl)) hF.dfr ?_
    exact⟨by rw[cmT_t hc8],bel⟩)
theorem skComes_any (n:Int) (w:World) (hT:TabD w) (hn0: -9000000000000000000≤n) (hn1:n≤9000000000000000000):
 Calls Tryz.prog 12 #[.int .i64 n] w (ValPost w (.bool (comes n))):=by
 have st:=St.start w
 refine E.enter (nt:=7) (L:=[(0,.int .i64 n)]) Tryz.func12 rfl rfl rfl (args_cons (i:=0) rfl args_nil) ?_
 intro a hF
 refine wp_seq ?_
 refine E.seq ?_
 refine E.opv hF (r_assign ev_c) rfl rfl rfl rfl fun a hF=>?_
 refine E.nil ?_
 refine wp_seq ?_
 refine E.seq ?_
 refine E.opv hF (r_move (hF.at 1 rfl)) rfl rfl rfl rfl fun a hF=>?_
 refine E.opv hF (r_move (hF.at 2 rfl)) rfl rfl rfl rfl fun a hF=>?_
 refine S.call st hF (r_call Tryz.func47 en47.1 en47.2 (map1 (hF.at 0 rfl))) (skDay_any n _ (by omega) (by omega)) (fun _ _ h=>h) Rq.cl rfl rfl rfl rfl fun vv2 w1 a st hF=>?_
 obtain⟨b4,ad4,n4,c4,ae4,m4,d4,rfl⟩:=Rq.form (st.f 0 rfl)
 refine S.callx st hF (r_call Tryz.func46 en46.1 en46.2 (map2 (hF.at 2 rfl) (hF.at 0 rfl))) (skComesT_any n _ _ 2 _ (hT.below st.bel) (st.f 0 rfl) (dnext_lim (n:=n) (by omega) (by omega)) (by omega) (by omega) (by omega)) rfl rfl rfl rfl fun w5 a st hF=>?_
 refine E.opset (L':=[(2,.bool (cmT n (((n+1:Int):Rat)))),(6,.bool (cmT n (((n+1:Int):Rat)))),(5,.agg #[.bool b4,.slice ad4 n4 c4,.slice ae4 m4 d4]),(4,.int .i64 n),(3,.int .i64 n),(0,.int .i64 n)]) hF (r_assign (hF.at 0 rfl)) rfl rfl rfl rfl fun a hF=>?_
 refine E.nil ?_
 refine wp_ret ?_
 have bel:=st.bel
 refine bodyPost_ret (res_tmp Tryz.results12 (hF.at 0 rfl)) hF.dfr ?_
 exact⟨by rw[←cmT_day],bel⟩
theorem hday_any (n h:Int) (N:Nat) (kf:FuncId) (cap:Array Value) (p:Rat→Bool) (w:World) (hN:min (max h 0) 64=((N:Nat):Int)) (hN2:N≤64) (hn0: -9000000000000000000≤n) (hn1:n≤9000000000000000000) (hask:AskP w kf cap 14 p):
 Calls Tryz.prog 49 #[.int .i64 n,.int .i64 h,.func (.func kf) #[] cap] w ((fun e w'=>∃v u,e= .returned (.tuple #[v,u])∧Rq w' v (hlo p ((n:Int):Rat) (((n+1:Int)):Rat) N)∧Rq w' u (hhi p ((n:Int):Rat) (((n+1:Int)):Rat) N)∧Below w.heap.size w w')):=by
 have st:=St.start w
 refine E.enter (nt:=17) (L:=[(0,.int .i64 n),(1,.int .i64 h),(2,.func (.func kf) #[] cap)]) Tryz.func49 rfl rfl rfl (args_cons (i:=0) rfl (args_cons (i:=1) rfl (args_cons (i:=2) rfl args_nil))) ?_
 intro a hF
 refine wp_seq ?_
 refine E.seq ?_
 refine S.alloc st hF ty_Rat rfl rfl fun g6 w1 a st hF=>?_
 refine S.alloc st hF ty_Rat rfl rfl fun g7 w2 a st hF=>?_
 refine E.nil ?_
 refine wp_seq ?_
 refine E.seq ?_
 refine E.opv hF (r_move (hF.at 2 rfl)) rfl rfl rfl rfl fun a hF=>?_
 refine S.call st hF (r_call Tryz.func20 en20.1 en20.2 (map1 (hF.at 0 rfl))) (rWhole_any (n) _ (by omega) (by omega)) (fun _ _ h=>h) Rq.cl rfl rfl rfl rfl fun vv4 w3 a st hF=>?_
 obtain⟨b6,ad6,n6,c6,ae6,m6,d6,rfl⟩:=Rq.form (st.f 0 rfl)
 refine E.opv hF (r_move (hF.at 4 rfl)) rfl rfl rfl rfl fun a hF=>?_
 refine S.call st hF (r_call Tryz.func47 en47.1 en47.2 (map1 (hF.at 0 rfl))) (skDay_any n _ (by omega) (by omega)) (fun _ _ h=>h) Rq.cl rfl rfl rfl rfl fun vv8 w7 a st hF=>?_
 obtain⟨b10,ad10,n10,c10,ae10,m10,d10,rfl⟩:=Rq.form (st.f 0 rfl)
 refine E.opv hF (r_move (hF.at 7 rfl)) rfl rfl rfl rfl fun a hF=>?_
 refine E.opv hF (r_move (hF.at 9 rfl)) rfl rfl rfl rfl fun a hF=>?_
 refine S.call2 st hF (r_call Tryz.func43 en43.1 en43.2 (map4s (hF.at 4 rfl) (hF.at 2 rfl) (hF.at 1 rfl) (hF.at 0 rfl))) (bis_any _ _ _ _ 2 2 h N _ _ p _ (st.f 1 rfl) (st.f 0 rfl) (rlim_int (limz_64 (by omega) (by omega)) (by omega)) (dnext_lim (n:=n) (by omega) (by omega)) (by omega) (by omega) hN (by omega) ((hask.below st.bel).to (by omega))) (fun _ _ h=>h) Rq.cl Rq.cl rfl rfl rfl rfl fun vv12 vv13 w11 a st hF=>?_
 obtain⟨b16,ad16,n16,c16,ae16,m16,d16,rfl⟩:=Rq.form (st.f 0 rfl)
 obtain⟨b17,ad17,n17,c17,ae17,m17,d17,rfl⟩:=Rq.form (st.f 1 rfl)
 refine E.opv hF (r_extract (v:= .agg #[.bool b16,.slice ad16 n16 c16,.slice ae16 m16 d16]) (hF.at 0 rfl) rfl) rfl rfl rfl rfl fun a hF=>?_
 refine E.opv hF (r_extract (v:= .agg #[.bool b17,.slice ad17 n17 c17,.slice ae17 m17 d17]) (hF.at 1 rfl) rfl) rfl rfl rfl rfl fun a hF=>?_
 refine S.sto st hF 1 rfl (hF.at 10 rfl) (hF.at 1 rfl) ty_Rat rfl rfl rfl rfl fun w18 a st hF=>?_
 refine S.sto st hF 0 rfl (hF.at 9 rfl) (hF.at 0 rfl) ty_Rat rfl rfl rfl rfl fun w19 a st hF=>?_
 refine E.nil ?_
 refine wp_ret ?_
 have bel:=st.bel
 refine bodyPost_ret (res_cell2 Tryz.results49 (hF.at 10 rfl) (ld_all ty_Rat (st.bk 1 rfl) rfl) (hF.at 9 rfl) (ld_all ty_Rat (st.bk 0 rfl) rfl)) hF.dfr ?_
 exact⟨_,_,rfl,(st.f 0 rfl),(st.f 1 rfl),bel⟩
theorem skNew_any (n:Int) (w:World) (hT:TabD w) (hn0: -9000000000000000000≤n) (hn1:n≤9000000000000000000):
 Calls Tryz.prog 14 #[.int .i64 n] w ((fun e w'=>∃v u,e= .returned (.tuple #[v,u])∧Rq w' v (hlo wax ((n:Int):Rat) (((n+1:Int)):Rat) 10)∧Rq w' u (hhi wax ((n:Int):Rat) (((n+1:Int)):Rat) 10)∧Below w.heap.size w w')):=by
 have st:=St.start w
 refine E.enter (nt:=8) (L:=[(0,.int .i64 n)]) Tryz.func14 rfl rfl rfl (args_cons (i:=0) rfl args_nil) ?_
 intro a hF
 refine wp_seq ?_
 refine E.seq ?_
 refine S.alloc st hF ty_Rat rfl rfl fun g2 w1 a st hF=>?_
 refine S.alloc st hF ty_Rat rfl rfl fun g3 w2 a st hF=>?_
 refine E.nil ?_
 refine wp_seq ?_
 refine E.seq ?_
 refine E.opv hF (r_move (hF.at 2 rfl)) rfl rfl rfl rfl fun a hF=>?_
 refine S.call2 st hF (r_call Tryz.func49 en49.1 en49.2 (map3 (hF.at 0 rfl) ev_c rfl)) (hday_any n 10 10 _ _ wax _ (by decide) (by omega) (by omega) (by omega) ((ask_wax _ (hT.below st.bel)).to (by omega))) (fun _ _ h=>h) Rq.cl Rq.cl rfl rfl rfl rfl fun vv4 vv5 w3 a st hF=>?_
 obtain⟨b8,ad8,n8,c8,ae8,m8,d8,rfl⟩:=Rq.form (st.f 0 rfl)
 obtain⟨b9,ad9,n9,c9,ae9,m9,d9,rfl⟩:=Rq.form (st.f 1 rfl)
 refine E.opv hF (r_extract (v:= .agg #[.bool b8,.slice ad8 n8 c8,.slice ae8 m8 d8]) (hF.at 0 rfl) rfl) rfl rfl rfl rfl fun a hF=>?_
 refine E.opv hF (r_extract (v:= .agg #[.bool b9,.slice ad9 n9 c9,.slice ae9 m9 d9]) (hF.at 1 rfl) rfl) rfl rfl rfl rfl fun a hF=>?_
 refine S.sto st hF 1 rfl (hF.at 5 rfl) (hF.at 1 rfl) ty_Rat rfl rfl rfl rfl fun w10 a st hF=>?_
 refine S.sto st hF 0 rfl (hF.at 4 rfl) (hF.at 0 rfl) ty_Rat rfl rfl rfl rfl fun w11 a st hF=>?_
 refine E.nil ?_
 refine wp_ret ?_
 have bel:=st.bel
 refine bodyPost_ret (res_cell2 Tryz.results14 (hF.at 5 rfl) (ld_all ty_Rat (st.bk 1 rfl) rfl) (hF.at 4 rfl) (ld_all ty_Rat (st.bk 0 rfl) rfl)) hF.dfr ?_
 exact⟨_,_,rfl,(st.f 0 rfl),(st.f 1 rfl),bel⟩
theorem days14_any (v1:Value) (qt:Rat) (k:Nat) (w:World) (h1:Rq w v1 (qt*(((1:Int):Rat)/((14:Int):Rat)))) (hl:RLim (qt*(((1:Int):Rat)/((14:Int):Rat))) k) (hk:k≤10000) (h0:0≤qt) (h3:qt≤((360:Int):Rat)):Calls Tryz.prog 64 #[v1] w (ValPost w (.tuple #[.int .i64 (skp qt),.bool true])):=by
 have h:=cDays_any v1 _ k w h1 hl hk
 have b:=skp_bd h0 h3
 rwa[show Rat.floor (qt*(((1:Int):Rat)/((14:Int):Rat)))=skp qt from rfl,sm64_t (by omega) (by omega),fit64_t (by omega) (by omega)] at h
theorem skDays_any (v1:Value) (qt:Rat) (k:Nat) (w:World) (h1:Rq w v1 qt) (hl:RLim qt k) (hk:k≤3000) (h0:0≤qt) (h3:qt≤((360:Int):Rat)):
 Calls Tryz.prog 65 #[v1] w (ValPost w (.int .i64 (skp qt))):=by
 have st:=St.start w
 refine E.enter (nt:=13) (L:=[(0,v1)]) Tryz.func65 rfl rfl rfl (args_cons (i:=0) rfl args_nil) ?_
 intro a hF
 refine wp_seq ?_
 refine E.seq ?_
 obtain⟨b2,ad2,n2,c2,ae2,m2,d2,rfl⟩:=Rq.form h1
 refine S.box st hF (hF.at 0 rfl) rfl rfl fun g1 w1 a st hF=>?_
 refine E.opv hF (r_assign ev_c) rfl rfl rfl rfl fun a hF=>?_
 refine E.nil ?_
 refine wp_seq ?_
 refine E.drawn 9 mixed hF [6,7,8,9,5,10,11,3,4] [(fun _ v=>v= .agg #[.bool b2,.slice ad2 n2 c2,.slice ae2 m2 d2]),(fun w v=>Rq w v (((1:Int):Rat)/((14:Int):Rat))),(fun w v=>Rq w v ((qt)*(((1:Int):Rat)/((14:Int):Rat)))),(fun _ v=>v= .tuple #[.int .i64 (skp qt),.bool true]),(fun _ v=>v= .tuple #[.int .i64 (skp qt),.bool true]),(fun _ v=>v= .int .i64 (skp qt)),(fun _ v=>v= .bool true),(fun _ v=>v= .int .i64 (skp qt)),(fun _ v=>v= .bool true)] [] (by decide+kernel) (by decide+kernel) rfl rfl rfl ⟨(Mb.eq _),(fun _ _ _ h hb=>h.below hb),(fun _ _ _ h hb=>h.below hb),(Mb.eq _),(Mb.eq _),(Mb.eq _),(Mb.eq _),(Mb.eq _),(Mb.eq _),trivial⟩ trivial ⟨?_,?_,?_,?_,?_,?_,?_,?_,?_,trivial⟩ ?_
 ·intro a' w' hF' hb hd
  exact dv0 (r_load (hF'.at 1 rfl) (ld_all ty_Rat ((st.bk 0 rfl).below hb) rfl)) rfl rfl rfl
 ·intro a' w' hF' hb hd
  exact dc0 (r_call Tryz.func22 en22.1 en22.2 (map2 ev_c ev_c)) (rOf2_any (1) (14) _ (by decide) (by decide) (by decide) (by decide)) rfl rfl
 ·intro a' w' hF' hb hd
  have e6:=sHe hd 0 6 rfl rfl rfl rfl
  obtain⟨v7_0,e7,h7_1⟩:=sH hd 1 7 rfl rfl rfl rfl
  exact dc0 (r_call Tryz.func104 en104.1 en104.2 (map2 e6 e7)) (rMul_any _ _ (qt) _ (max k 2) _ (h1.below (below_to st.bel hb)) h7_1 (hl.up _ (by omega)) ((RLim.up (rlim_mk2 (limz_64 (by decide) (by decide)) (limz_64 (by decide) (by decide))) 2 (by decide)).up _ (by omega)) (by omega)) rfl rfl
 ·intro a' w' hF' hb hd
  obtain⟨v8_0,e8,h8_1⟩:=sH hd 0 8 rfl rfl rfl rfl
  exact dcx0 (r_call Tryz.func64 en64.1 en64.2 (map1 e8)) (days14_any _ qt (k+2) _ h8_1 (rlim_mul hl (RLim.up (rlim_mk2 (limz_64 (by decide) (by decide)) (limz_64 (by decide) (by decide))) 2 (by decide))) (by omega) h0 h3) (fun _=>rfl) rfl rfl
 ·intro a' w' hF' hb hd
  have e9:=sHe hd 0 9 rfl rfl rfl rfl
  exact dv0 (r_move e9) rfl rfl rfl
 ·intro a' w' hF' hb hd
  have e5:=sHe hd 0 5 rfl rfl rfl rfl
  exact dv0 (r_extract (v:= .int .i64 (skp qt)) e5 rfl) rfl rfl rfl
 ·intro a' w' hF' hb hd
  have e5:=sHe hd 0 5 rfl rfl rfl rfl
  exact dv0 (r_extract (v:= .bool true) e5 rfl) rfl rfl rfl
 ·intro a' w' hF' hb hd
  have e10:=sHe hd 0 10 rfl rfl rfl rfl
  exact dv0 (r_assign e10) rfl rfl rfl
 ·intro a' w' hF' hb hd
  have e11:=sHe hd 0 11 rfl rfl rfl rfl
  exact dv0 (r_assign e11) rfl rfl rfl
 intro a w3 hF bb hall hne
 replace st:=st.to bb
 have e3:=sSe hall 7 3 rfl rfl
 clear hall hne bb
 replace hF:=hF.add e3
 clear e3
 refine E.nil ?_
 refine wp_seq ?_
 refine E.seq ?_
 refine E.opv hF (r_move (hF.at 0 rfl)) rfl rfl rfl rfl fun a hF=>?_
 refine E.opset (L':=[(2,.int .i64 (skp qt)),(12,.int .i64 (skp qt)),(3,.int .i64 (skp qt)),(1,.pointer (some ⟨g1,0,none⟩)),(0,.agg #[.bool b2,.slice ad2 n2 c2,.slice ae2 m2 d2])]) hF (r_assign (hF.at 0 rfl)) rfl rfl rfl rfl fun a hF=>?_
 refine E.nil ?_
 refine wp_ret ?_
 have bel:=st.bel
 refine bodyPost_ret (res_tmp Tryz.results65 (hF.at 0 rfl)) hF.dfr ?_
 exact⟨rfl,bel⟩
theorem daysL_any (v1:Value) (qt:Rat) (k:Nat) (w:World) (h1:Rq w v1 qt) (hl:RLim qt k) (hk:k≤10000) (h0: -9223372036854775808≤qt.floor) (h3:qt.floor≤9223372036854775807):Calls Tryz.prog 64 #[v1] w (ValPost w (.tuple #[.int .i64 (Rat.floor qt),.bool true])):=by
 have h:=cDays_any v1 _ k w h1 hl hk
 rwa[sm64_t h0 h3,fit64_t h0 h3] at h
theorem ph_deg (n:Int):0≤phaseV ((n:Int):Rat)∧phaseV ((n:Int):Rat)≤((360:Int):Rat):=⟨phaseV_low _,Rat.le_of_lt (phaseV_high _)⟩
theorem ph_rest (n:Int):0≤((360:Int):Rat)-phaseV ((n:Int):Rat)∧((360:Int):Rat)-phaseV ((n:Int):Rat)≤((360:Int):Rat):=by
 have:=ph_deg n
 constructor <;> grind
theorem skLast_any (v1:Value) (qt:Rat) (k:Nat) (w:World) (hT:TabD w) (h1:Rq w v1 qt) (hl:RLim qt k) (hk:k≤100) (hf0: -8000000000000000000≤Rat.floor qt) (hf1:Rat.floor qt≤8000000000000000000):
 Calls Tryz.prog 21 #[v1] w (ValPost w (.int .i64 (lastV qt))):=by
 have st:=St.start w
 refine E.enter (nt:=37) (L:=[(0,v1)]) Tryz.func21 rfl rfl rfl (args_cons (i:=0) rfl args_nil) ?_
 intro a hF
 refine wp_seq ?_
 refine E.seq ?_
 obtain⟨b2,ad2,n2,c2,ae2,m2,d2,rfl⟩:=Rq.form h1
 refine S.box st hF (hF.at 0 rfl) rfl rfl fun g1 w1 a st hF=>?_
 refine E.opv hF (r_assign ev_c) rfl rfl rfl rfl fun a hF=>?_
 refine E.nil ?_
 refine wp_seq ?_
 refine E.seq ?_
 refine E.opv hF (r_load (hF.at 1 rfl) (ld_all ty_Rat (st.bk 0 rfl) rfl)) rfl rfl rfl rfl fun a hF=>?_
 refine S.callx st hF (r_call Tryz.func64 en64.1 en64.2 (map1 (hF.at 0 rfl))) (daysL_any _ qt k _ (h1.below st.bel) hl (by omega) (by omega) (by omega)) rfl rfl rfl rfl fun w3 a st hF=>?_
 refine E.opv hF (r_move (hF.at 0 rfl)) rfl rfl rfl rfl fun a hF=>?_
 refine E.opv hF (r_extract (v:= .int .i64 (Rat.floor qt)) (hF.at 0 rfl) rfl) rfl rfl rfl rfl fun a hF=>?_
 refine E.opv hF (r_extract (v:= .bool true) (hF.at 1 rfl) rfl) rfl rfl rfl rfl fun a hF=>?_
 refine E.opv hF (r_assign (hF.at 1 rfl)) rfl rfl rfl rfl fun a hF=>?_
 refine E.opv hF (r_assign (hF.at 1 rfl)) rfl rfl rfl rfl fun a hF=>?_
 refine E.nil ?_
 refine wp_seq ?_
 refine wp_seq ?_
 refine E.seq ?_
 refine E.opv hF (r_move (hF.at 0 rfl)) rfl rfl rfl rfl fun a hF=>?_
 refine E.opv hF (r_un (hF.at 0 rfl) (bn_not _ false rfl)) rfl rfl rfl rfl fun a hF=>?_
 refine E.nil ?_
 refine wp_cond_false (hF.at 0 rfl) ?_
 refine wp_skip ?_
 refine E.norm ?_
 refine wp_seq ?_
 refine wp_seq ?_
 refine E.seq ?_
 refine E.opv hF (r_move (hF.at 3 rfl)) rfl rfl rfl rfl fun a hF=>?_
 refine E.opv hF (r_load (hF.at 11 rfl) (ld_all ty_Rat (st.bk 0 rfl) rfl)) rfl rfl rfl rfl fun a hF=>?_
 refine S.callx st hF (r_call Tryz.func46 en46.1 en46.2 (map2 (hF.at 1 rfl) (hF.at 0 rfl))) (skComesT_any (Rat.floor qt) _ (qt) k _ (hT.below st.bel) (h1.below st.bel) hl (by omega) (by omega) (by omega)) rfl rfl rfl rfl fun w4 a st hF=>?_
 refine E.nil ?_
 by_cases hc5:cmT (Rat.floor qt) (qt)=true
 ·first
  |(exfalso;omega)
  |(refine wp_cond_true (Eq.trans (hF.at 0 rfl) (congrArg Value.bool hc5)) ?_
    refine wp_seq ?_
    refine E.seq ?_
    refine E.opv hF (r_move (hF.at 6 rfl)) rfl rfl rfl rfl fun a hF=>?_
    refine E.opset (L':=[(2,.int .i64 (Rat.floor qt)),(16,.int .i64 (Rat.floor qt)),(15,.bool (cmT (Rat.floor qt) (qt))),(14,.agg #[.bool b2,.slice ad2 n2 c2,.slice ae2 m2 d2]),(13,.int .i64 (Rat.floor qt)),(12,.bool false),(11,.bool true),(4,.bool true),(3,.int .i64 (Rat.floor qt)),(10,.bool true),(9,.int .i64 (Rat.floor qt)),(6,.tuple #[.int .i64 (Rat.floor qt),.bool true]),(8,.tuple #[.int .i64 (Rat.floor qt),.bool true]),(7,.agg #[.bool b2,.slice ad2 n2 c2,.slice ae2 m2 d2]),(1,.pointer (some ⟨g1,0,none⟩)),(0,.agg #[.bool b2,.slice ad2 n2 c2,.slice ae2 m2 d2])]) hF (r_assign (hF.at 0 rfl)) rfl rfl rfl rfl fun a hF=>?_
    refine E.nil ?_
    refine wp_ret ?_
    have bel:=st.bel
    refine bodyPost_ret (res_tmp Tryz.results21 (hF.at 0 rfl)) hF.dfr ?_
    exact⟨by rw[lastV_yes (t:=qt) hc5],bel⟩)
 ·first
  |(exfalso;omega)
  |(refine wp_cond_false (Eq.trans (hF.at 0 rfl) (congrArg Value.bool (eq_false_of_ne_true hc5))) ?_
    refine wp_skip ?_
    refine E.norm ?_
    refine wp_seq ?_
    refine wp_block ?_
    refine E.loop (fun mq a wv=>∃(m:Int),lastD (Rat.floor qt)<m∧m≤Rat.floor qt∧¬cmT (Rat.floor qt) (qt)=true∧Fr 37 a [(3,.int .i64 m)]∧St w wv [] []∧mq=(m-lastD (Rat.floor qt)).toNat) (((Rat.floor qt)-lastD (Rat.floor qt)).toNat) ?_ ?_
    ·exact⟨(Rat.floor qt),(lastD_spec (Rat.floor qt)).2.1,(Int.le_refl _),hc5,Fr.pick (L':=[(3,.int .i64 (Rat.floor qt))]) hF [6] rfl,st.pick [] [] rfl rfl (by decide),rfl⟩
    ·rintro mq a w6 ⟨m,hm0,hm1,hnow,hF,st,hm⟩
     have hls:=lastD_spec (Rat.floor qt)
     have hsk:=last_skip hm0 hls.2.2.1 (fun x h1 h2=>hls.2.2.2 x h1 (by omega))
     refine wp_seq ?_
     refine wp_seq ?_
     refine E.seq ?_
     refine E.opv hF (r_move (hF.at 0 rfl)) rfl rfl rfl rfl fun a hF=>?_
     by_cases hc7:(-9223372036854775808)<m
     ·first
      |(exfalso;omega)
      |(refine E.opv hF (r_bin (hF.at 0 rfl) ev_c eg_scalar (bi_int (ic_gtr (c:=true) (dec_tt hc7)) (by simp))) rfl rfl rfl rfl fun a hF=>?_
        refine E.nil ?_
        refine wp_cond_true (hF.at 0 rfl) ?_
        refine wp_skip ?_
        refine E.norm ?_
        refine wp_block ?_
        refine wp_seq ?_
        refine E.seq ?_
        refine E.opv hF (r_move (hF.at 2 rfl)) rfl rfl rfl rfl fun a hF=>?_
        refine S.call st hF (r_call Tryz.func20 en20.1 en20.2 (map1 (hF.at 0 rfl))) (rWhole_any (m) _ (by omega) (by omega)) (fun _ _ h=>h) Rq.cl rfl rfl rfl rfl fun vv9 w8 a st hF=>?_
        obtain⟨b11,ad11,n11,c11,ae11,m11,d11,rfl⟩:=Rq.form (st.f 0 rfl)
        refine S.call st hF (r_call Tryz.func18 en18.1 en18.2 (map1 (hF.at 0 rfl))) (oPhase_any _ _ 2 _ (hT.below st.bel) (st.f 0 rfl) (rlim_int (limz_64 (by omega) (by omega)) (by omega)) (by omega)) (fun _ _ h=>h) Rq.cl rfl rfl rfl rfl fun vv13 w12 a st hF=>?_
        obtain⟨b15,ad15,n15,c15,ae15,m15,d15,rfl⟩:=Rq.form (st.f 0 rfl)
        refine S.callx st hF (r_call Tryz.func65 en65.1 en65.2 (map1 (hF.at 0 rfl))) (skDays_any _ _ (6*2+210) _ (st.f 0 rfl) (phaseV_lim (rlim_int (limz_64 (by omega) (by omega)) (by omega))) (by omega) (ph_deg m).1 (ph_deg m).2) rfl rfl rfl rfl fun w16 a st hF=>?_
        have hskp:=skp_bd (ph_deg m).1 (ph_deg m).2
        refine E.opv hF (r_assign (hF.at 0 rfl)) rfl rfl rfl rfl fun a hF=>?_
        refine E.nil ?_
        refine wp_seq ?_
        refine wp_seq ?_
        refine E.seq ?_
        refine E.opv hF (r_move (hF.at 0 rfl)) rfl rfl rfl rfl fun a hF=>?_
        by_cases hc17:skp (phaseV (((m:Int):Rat)))=0
        ·first
         |(exfalso;omega)
         |(refine E.opv hF (r_bin (hF.at 0 rfl) ev_c eg_scalar (bi_int (ic_eql (c:=true) (dec_tt hc17)) (by simp))) rfl rfl rfl rfl fun a hF=>?_
           refine E.nil ?_
           refine wp_cond_true (hF.at 0 rfl) ?_
           refine wp_seq ?_
           refine E.seq ?_
           refine E.opv hF (r_move (hF.at 9 rfl)) rfl rfl rfl rfl fun a hF=>?_
           refine E.opv hF (r_bin (hF.at 0 rfl) ev_c eg_scalar (ia_sub (by omega) (by omega))) rfl rfl rfl rfl fun a hF=>?_
           refine E.opset (L':=[(3,.int .i64 (m-1)),(26,.int .i64 (m-1)),(25,.int .i64 m),(24,.bool true),(23,.int .i64 (skp (phaseV (((m:Int):Rat))))),(5,.int .i64 (skp (phaseV (((m:Int):Rat))))),(22,.int .i64 (skp (phaseV (((m:Int):Rat))))),(21,.agg #[.bool b15,.slice ad15 n15 c15,.slice ae15 m15 d15]),(20,.agg #[.bool b11,.slice ad11 n11 c11,.slice ae11 m11 d11]),(19,.int .i64 m),(18,.bool true),(17,.int .i64 m)]) hF (r_assign (hF.at 0 rfl)) rfl rfl rfl rfl fun a hF=>?_
           refine E.nil ?_
           refine wp_seq ?_
           refine wp_seq ?_
           refine E.seq ?_
           refine E.opv hF (r_move (hF.at 0 rfl)) rfl rfl rfl rfl fun a hF=>?_
           refine S.callx st hF (r_call Tryz.func12 en12.1 en12.2 (map1 (hF.at 0 rfl))) (skComes_any (m-1) _ (hT.below st.bel) (by omega) (by omega)) rfl rfl rfl rfl fun w18 a st hF=>?_
           refine E.nil ?_
           by_cases hc19:comes (m-1)=true
           ·first
            |(exfalso;omega)
            |(refine wp_cond_true (Eq.trans (hF.at 0 rfl) (congrArg Value.bool hc19)) ?_
              refine wp_seq ?_
              refine E.seq ?_
              refine E.opv hF (r_move (hF.at 2 rfl)) rfl rfl rfl rfl fun a hF=>?_
              refine E.opv hF (r_assign (hF.at 0 rfl)) rfl rfl rfl rfl fun a hF=>?_
              refine E.nil ?_
              refine wp_ret ?_
              have bel:=st.bel
              refine bodyPost_ret (res_tmp Tryz.results21 (hF.at 0 rfl)) hF.dfr ?_
              exact⟨by rw[lastV_no (t:=qt) hnow,lastD_is (f:=Rat.floor qt) (by omega) (by omega) hc19],bel⟩)
           ·first
            |(exfalso;omega)
            |(refine wp_cond_false (Eq.trans (hF.at 0 rfl) (congrArg Value.bool (eq_false_of_ne_true hc19))) ?_
              refine wp_skip ?_
              refine E.norm ?_
              refine wp_exit ?_
              refine E.past ?_
              refine E.out (id:=1) ?_
              refine E.norm ?_
              exact⟨(m-1-lastD (Rat.floor qt)).toNat,by omega,⟨(m-1),(lastD_no (by omega) hc19),(by omega),hnow,Fr.pick (L':=[(3,.int .i64 (m-1))]) hF [2] rfl,st.pick [] [] rfl rfl (by decide),rfl⟩⟩))
        ·first
         |(exfalso;omega)
         |(refine E.opv hF (r_bin (hF.at 0 rfl) ev_c eg_scalar (bi_int (ic_eql (c:=false) (dec_ff hc17)) (by simp))) rfl rfl rfl rfl fun a hF=>?_
           refine E.nil ?_
           refine wp_cond_false (hF.at 0 rfl) ?_
           refine wp_skip ?_
           refine E.norm ?_
           refine wp_seq ?_
           refine wp_seq ?_
           refine E.seq ?_
           refine E.opv hF (r_move (hF.at 9 rfl)) rfl rfl rfl rfl fun a hF=>?_
           refine E.opv hF (r_move (hF.at 3 rfl)) rfl rfl rfl rfl fun a hF=>?_
           refine E.opv hF (r_bin ev_c (hF.at 0 rfl) eg_scalar (ia_add (by omega) (by omega))) rfl rfl rfl rfl fun a hF=>?_
           by_cases hc20:m<(-9223372036854775808)+(skp (phaseV (((m:Int):Rat))))
           ·first
            |(exfalso;omega)
            |(refine E.opv hF (r_bin (hF.at 2 rfl) (hF.at 0 rfl) eg_scalar (bi_int (ic_lss (c:=true) (dec_tt hc20)) (by simp))) rfl rfl rfl rfl fun a hF=>?_
              refine E.nil ?_
              refine wp_cond_true (hF.at 0 rfl) ?_
              refine wp_exit ?_
              refine E.past ?_
              refine E.pastb (by decide) ?_
              refine E.past ?_
              refine E.out (id:=0) ?_
              refine E.norm ?_
              refine wp_seq ?_
              refine E.seq ?_
              refine E.opv hF (r_assign ev_c) rfl rfl rfl rfl fun a hF=>?_
              refine E.nil ?_
              refine wp_ret ?_
              have bel:=st.bel
              refine bodyPost_ret (res_tmp Tryz.results21 (hF.at 0 rfl)) hF.dfr ?_
              exfalso;omega)
           ·first
            |(exfalso;omega)
            |(refine E.opv hF (r_bin (hF.at 2 rfl) (hF.at 0 rfl) eg_scalar (bi_int (ic_lss (c:=false) (dec_ff hc20)) (by simp))) rfl rfl rfl rfl fun a hF=>?_
              refine E.nil ?_
              refine wp_cond_false (hF.at 0 rfl) ?_
              refine wp_skip ?_
              refine E.norm ?_
              refine E.seq ?_
              refine E.opv hF (r_move (hF.at 13 rfl)) rfl rfl rfl rfl fun a hF=>?_
              refine E.opv hF (r_move (hF.at 7 rfl)) rfl rfl rfl rfl fun a hF=>?_
              refine E.opv hF (r_bin (hF.at 1 rfl) (hF.at 0 rfl) eg_scalar (ia_sub (by omega) (by omega))) rfl rfl rfl rfl fun a hF=>?_
              refine E.opset (L':=[(3,.int .i64 (m-(skp (phaseV (((m:Int):Rat)))))),(36,.int .i64 (m-(skp (phaseV (((m:Int):Rat)))))),(35,.int .i64 (skp (phaseV (((m:Int):Rat))))),(34,.int .i64 m),(33,.bool false),(32,.int .i64 ((-9223372036854775808)+(skp (phaseV (((m:Int):Rat)))))),(31,.int .i64 (skp (phaseV (((m:Int):Rat))))),(30,.int .i64 m),(24,.bool false),(23,.int .i64 (skp (phaseV (((m:Int):Rat))))),(5,.int .i64 (skp (phaseV (((m:Int):Rat))))),(22,.int .i64 (skp (phaseV (((m:Int):Rat))))),(21,.agg #[.bool b15,.slice ad15 n15 c15,.slice ae15 m15 d15]),(20,.agg #[.bool b11,.slice ad11 n11 c11,.slice ae11 m11 d11]),(19,.int .i64 m),(18,.bool true),(17,.int .i64 m)]) hF (r_assign (hF.at 0 rfl)) rfl rfl rfl rfl fun a hF=>?_
              refine E.nil0 ?_
              refine E.blk ?_
              refine E.norm ?_
              exact⟨(m-(skp (phaseV (((m:Int):Rat))))-lastD (Rat.floor qt)).toNat,by omega,⟨(m-(skp (phaseV (((m:Int):Rat))))),(by omega),(by omega),hnow,Fr.pick (L':=[(3,.int .i64 (m-(skp (phaseV (((m:Int):Rat))))))]) hF [0] rfl,st.pick [] [] rfl rfl (by decide),rfl⟩⟩)))
     ·first
      |(exfalso;omega)
      |(refine E.opv hF (r_bin (hF.at 0 rfl) ev_c eg_scalar (bi_int (ic_gtr (c:=false) (dec_ff hc7)) (by simp))) rfl rfl rfl rfl fun a hF=>?_
        refine E.nil ?_
        refine wp_cond_false (hF.at 0 rfl) ?_
        refine wp_exit ?_
        refine E.past ?_
        refine E.past ?_
        refine E.out (id:=0) ?_
        refine E.norm ?_
        refine wp_seq ?_
        refine E.seq ?_
        refine E.opv hF (r_assign ev_c) rfl rfl rfl rfl fun a hF=>?_
        refine E.nil ?_
        refine wp_ret ?_
        have bel:=st.bel
        refine bodyPost_ret (res_tmp Tryz.results21 (hF.at 0 rfl)) hF.dfr ?_
        exfalso;omega))
theorem nextD_no {n m:Int} (h:comes n=true) (h1:n<m) (h2:m≤nextD n) (hc:¬comes m=true):m<nextD n:=by
 have s:=nextD_spec h
 by_cases e:m=nextD n
 ·rw[e] at hc;exact absurd s.2.2.1 hc
 ·omega
theorem skNext_any (n:Int) (w:World) (hT:TabD w) (hn0: -8000000000000000000≤n) (hn1:n≤8000000000000000000) (hc:comes n=true):
 Calls Tryz.prog 24 #[.int .i64 n] w (ValPost w (.int .i64 (nextD n))):=by
 have st:=St.start w
 refine E.enter (nt:=24) (L:=[(0,.int .i64 n)]) Tryz.func24 rfl rfl rfl (args_cons (i:=0) rfl args_nil) ?_
 intro a hF
 refine wp_seq ?_
 refine E.seq ?_
 refine E.opv hF (r_assign ev_c) rfl rfl rfl rfl fun a hF=>?_
 refine E.nil ?_
 refine wp_seq ?_
 refine wp_block ?_
 refine E.loop (fun mq a wv=>∃(m:Int),n≤m∧m<nextD n∧Fr 24 a [(0,.int .i64 m)]∧St w wv [] []∧mq=(nextD n-m).toNat) ((nextD n-n).toNat) ?_ ?_
 ·exact⟨n,(Int.le_refl _),(by have:=nextD_spec hc;omega),Fr.pick (L':=[(0,.int .i64 n)]) hF [1] rfl,st.pick [] [] rfl rfl (by decide),rfl⟩
 ·rintro mq a w1 ⟨m,hm0,hm1,hF,st,hm⟩
  have hls:=nextD_spec hc
  have hsk:=next_skip hm1 hls.2.2.1 (fun x h1 h2=>hls.2.2.2 x (by omega) h2)
  refine wp_seq ?_
  refine wp_seq ?_
  refine E.seq ?_
  refine E.opv hF (r_move (hF.at 0 rfl)) rfl rfl rfl rfl fun a hF=>?_
  by_cases hc2:m<9223372036854775807
  ·first
   |(exfalso;omega)
   |(refine E.opv hF (r_bin (hF.at 0 rfl) ev_c eg_scalar (bi_int (ic_lss (c:=true) (dec_tt hc2)) (by simp))) rfl rfl rfl rfl fun a hF=>?_
     refine E.nil ?_
     refine wp_cond_true (hF.at 0 rfl) ?_
     refine wp_skip ?_
     refine E.norm ?_
     refine wp_block ?_
     refine wp_seq ?_
     refine E.seq ?_
     refine E.opv hF (r_move (hF.at 2 rfl)) rfl rfl rfl rfl fun a hF=>?_
     refine E.opv hF (r_bin (hF.at 0 rfl) ev_c eg_scalar (ia_add (by omega) (by omega))) rfl rfl rfl rfl fun a hF=>?_
     refine E.opset (L':=[(0,.int .i64 (m+1)),(7,.int .i64 (m+1)),(6,.int .i64 m),(5,.bool true),(4,.int .i64 m)]) hF (r_assign (hF.at 0 rfl)) rfl rfl rfl rfl fun a hF=>?_
     refine E.nil ?_
     refine wp_seq ?_
     refine E.seq ?_
     refine S.call st hF (r_call Tryz.func20 en20.1 en20.2 (map1 ev_c)) (rWhole_any (360) _ (by decide) (by decide)) (fun _ _ h=>h) Rq.cl rfl rfl rfl rfl fun vv4 w3 a st hF=>?_
     obtain⟨b6,ad6,n6,c6,ae6,m6,d6,rfl⟩:=Rq.form (st.f 0 rfl)
     refine E.opv hF (r_move (hF.at 1 rfl)) rfl rfl rfl rfl fun a hF=>?_
     refine S.call st hF (r_call Tryz.func20 en20.1 en20.2 (map1 (hF.at 0 rfl))) (rWhole_any (m+1) _ (by omega) (by omega)) (fun _ _ h=>h) Rq.cl rfl rfl rfl rfl fun vv8 w7 a st hF=>?_
     obtain⟨b10,ad10,n10,c10,ae10,m10,d10,rfl⟩:=Rq.form (st.f 0 rfl)
     refine S.call st hF (r_call Tryz.func18 en18.1 en18.2 (map1 (hF.at 0 rfl))) (oPhase_any _ _ 2 _ (hT.below st.bel) (st.f 0 rfl) (rlim_int (limz_64 (by omega) (by omega)) (by omega)) (by omega)) (fun _ _ h=>h) Rq.cl rfl rfl rfl rfl fun vv12 w11 a st hF=>?_
     obtain⟨b14,ad14,n14,c14,ae14,m14,d14,rfl⟩:=Rq.form (st.f 0 rfl)
     refine S.call st hF (r_call Tryz.func37 en37.1 en37.2 (map2 (hF.at 3 rfl) (hF.at 0 rfl))) (rSub_any _ _ _ _ (max 2 (6*2+210)) _ (st.f 2 rfl) (st.f 0 rfl) ((rlim_int (limz_64 (by decide) (by decide)) (by omega)).up _ (by omega)) ((phaseV_lim (rlim_int (limz_64 (by omega) (by omega)) (by omega))).up _ (by omega)) (by omega)) (fun _ _ h=>h) Rq.cl rfl rfl rfl rfl fun vv16 w15 a st hF=>?_
     obtain⟨b18,ad18,n18,c18,ae18,m18,d18,rfl⟩:=Rq.form (st.f 0 rfl)
     refine S.callx st hF (r_call Tryz.func65 en65.1 en65.2 (map1 (hF.at 0 rfl))) (skDays_any _ _ (2+(6*2+210)+1) _ (st.f 0 rfl) (rlim_sub (rlim_int (limz_64 (by decide) (by decide)) (by omega)) (phaseV_lim (rlim_int (limz_64 (by omega) (by omega)) (by omega)))) (by omega) (ph_rest (m+1)).1 (ph_rest (m+1)).2) rfl rfl rfl rfl fun w19 a st hF=>?_
     have hskp:=skp_bd (ph_rest (m+1)).1 (ph_rest (m+1)).2
     refine E.opv hF (r_assign (hF.at 0 rfl)) rfl rfl rfl rfl fun a hF=>?_
     refine E.nil ?_
     refine wp_seq ?_
     refine wp_seq ?_
     refine E.seq ?_
     refine E.opv hF (r_move (hF.at 7 rfl)) rfl rfl rfl rfl fun a hF=>?_
     refine E.opv hF (r_move (hF.at 1 rfl)) rfl rfl rfl rfl fun a hF=>?_
     refine E.opv hF (r_bin ev_c (hF.at 0 rfl) eg_scalar (ia_sub (by omega) (by omega))) rfl rfl rfl rfl fun a hF=>?_
     by_cases hc20:9223372036854775807-(skp ((((360:Int):Rat))-(phaseV (((m+1:Int):Rat)))))<m+1
     ·first
      |(exfalso;omega)
      |(refine E.opv hF (r_bin (hF.at 2 rfl) (hF.at 0 rfl) eg_scalar (bi_int (ic_gtr (c:=true) (dec_tt hc20)) (by simp))) rfl rfl rfl rfl fun a hF=>?_
        refine E.nil ?_
        refine wp_cond_true (hF.at 0 rfl) ?_
        refine wp_exit ?_
        refine E.past ?_
        refine E.pastb (by decide) ?_
        refine E.past ?_
        refine E.out (id:=0) ?_
        refine E.norm ?_
        refine wp_seq ?_
        refine E.seq ?_
        refine E.opv hF (r_assign ev_c) rfl rfl rfl rfl fun a hF=>?_
        refine E.nil ?_
        refine wp_ret ?_
        have bel:=st.bel
        refine bodyPost_ret (res_tmp Tryz.results24 (hF.at 0 rfl)) hF.dfr ?_
        exfalso;omega)
     ·first
      |(exfalso;omega)
      |(refine E.opv hF (r_bin (hF.at 2 rfl) (hF.at 0 rfl) eg_scalar (bi_int (ic_gtr (c:=false) (dec_ff hc20)) (by simp))) rfl rfl rfl rfl fun a hF=>?_
        refine E.nil ?_
        refine wp_cond_false (hF.at 0 rfl) ?_
        refine wp_skip ?_
        refine E.norm ?_
        refine wp_seq ?_
        refine E.seq ?_
        refine E.opv hF (r_move (hF.at 11 rfl)) rfl rfl rfl rfl fun a hF=>?_
        refine E.opv hF (r_move (hF.at 5 rfl)) rfl rfl rfl rfl fun a hF=>?_
        refine E.opv hF (r_bin (hF.at 1 rfl) (hF.at 0 rfl) eg_scalar (ia_add (by omega) (by omega))) rfl rfl rfl rfl fun a hF=>?_
        refine E.opset (L':=[(0,.int .i64 ((m+1)+(skp ((((360:Int):Rat))-(phaseV (((m+1:Int):Rat))))))),(20,.int .i64 ((m+1)+(skp ((((360:Int):Rat))-(phaseV (((m+1:Int):Rat))))))),(19,.int .i64 (skp ((((360:Int):Rat))-(phaseV (((m+1:Int):Rat)))))),(18,.int .i64 (m+1)),(17,.bool false),(16,.int .i64 (9223372036854775807-(skp ((((360:Int):Rat))-(phaseV (((m+1:Int):Rat))))))),(15,.int .i64 (skp ((((360:Int):Rat))-(phaseV (((m+1:Int):Rat)))))),(14,.int .i64 (m+1)),(3,.int .i64 (skp ((((360:Int):Rat))-(phaseV (((m+1:Int):Rat)))))),(13,.int .i64 (skp ((((360:Int):Rat))-(phaseV (((m+1:Int):Rat)))))),(12,.agg #[.bool b18,.slice ad18 n18 c18,.slice ae18 m18 d18]),(11,.agg #[.bool b14,.slice ad14 n14 c14,.slice ae14 m14 d14]),(10,.agg #[.bool b10,.slice ad10 n10 c10,.slice ae10 m10 d10]),(9,.int .i64 (m+1)),(8,.agg #[.bool b6,.slice ad6 n6 c6,.slice ae6 m6 d6]),(7,.int .i64 (m+1)),(6,.int .i64 m),(5,.bool true),(4,.int .i64 m)]) hF (r_assign (hF.at 0 rfl)) rfl rfl rfl rfl fun a hF=>?_
        refine E.nil ?_
        refine wp_seq ?_
        refine E.seq ?_
        refine E.opv hF (r_move (hF.at 0 rfl)) rfl rfl rfl rfl fun a hF=>?_
        refine S.callx st hF (r_call Tryz.func12 en12.1 en12.2 (map1 (hF.at 0 rfl))) (skComes_any ((m+1)+(skp ((((360:Int):Rat))-(phaseV (((m+1:Int):Rat)))))) _ (hT.below st.bel) (by omega) (by omega)) rfl rfl rfl rfl fun w21 a st hF=>?_
        refine E.nil ?_
        by_cases hc22:comes ((m+1)+(skp ((((360:Int):Rat))-(phaseV (((m+1:Int):Rat))))))=true
        ·first
         |(exfalso;omega)
         |(refine wp_cond_true (Eq.trans (hF.at 0 rfl) (congrArg Value.bool hc22)) ?_
           refine wp_seq ?_
           refine E.seq ?_
           refine E.opv hF (r_move (hF.at 2 rfl)) rfl rfl rfl rfl fun a hF=>?_
           refine E.opv hF (r_assign (hF.at 0 rfl)) rfl rfl rfl rfl fun a hF=>?_
           refine E.nil ?_
           refine wp_ret ?_
           have bel:=st.bel
           refine bodyPost_ret (res_tmp Tryz.results24 (hF.at 0 rfl)) hF.dfr ?_
           exact⟨rv_int (nextD_is hc (by omega) (by omega) hc22),bel⟩)
        ·first
         |(exfalso;omega)
         |(refine wp_cond_false (Eq.trans (hF.at 0 rfl) (congrArg Value.bool (eq_false_of_ne_true hc22))) ?_
           refine wp_skip ?_
           refine E.blk ?_
           refine E.norm ?_
           exact⟨(nextD n-((m+1)+(skp ((((360:Int):Rat))-(phaseV (((m+1:Int):Rat))))))).toNat,by omega,⟨((m+1)+(skp ((((360:Int):Rat))-(phaseV (((m+1:Int):Rat)))))),(by omega),(nextD_no hc (by omega) (by omega) hc22),Fr.pick (L':=[(0,.int .i64 ((m+1)+(skp ((((360:Int):Rat))-(phaseV (((m+1:Int):Rat)))))))]) hF [2] rfl,st.pick [] [] rfl rfl (by decide),rfl⟩⟩)))
  ·first
   |(exfalso;omega)
   |(refine E.opv hF (r_bin (hF.at 0 rfl) ev_c eg_scalar (bi_int (ic_lss (c:=false) (dec_ff hc2)) (by simp))) rfl rfl rfl rfl fun a hF=>?_
     refine E.nil ?_
     refine wp_cond_false (hF.at 0 rfl) ?_
     refine wp_exit ?_
     refine E.past ?_
     refine E.past ?_
     refine E.out (id:=0) ?_
     refine E.norm ?_
     refine wp_seq ?_
     refine E.seq ?_
     refine E.opv hF (r_assign ev_c) rfl rfl rfl rfl fun a hF=>?_
     refine E.nil ?_
     refine wp_ret ?_
     have bel:=st.bel
     refine bodyPost_ret (res_tmp Tryz.results24 (hF.at 0 rfl)) hF.dfr ?_
     exfalso;omega)
theorem skEnters_any (n:Int) (w:World) (hT:TabD w) (hn0: -9000000000000000000≤n) (hn1:n≤9000000000000000000):
 Calls Tryz.prog 27 #[.int .i64 n] w (ValPost w (.bool (notI 0 (kI 0 ((n:Int):Rat)) (((n+1:Int)):Rat)))):=by
 have st:=St.start w
 refine E.enter (nt:=10) (L:=[(0,.int .i64 n)]) Tryz.func27 rfl rfl rfl (args_cons (i:=0) rfl args_nil) ?_
 intro a hF
 refine wp_seq ?_
 refine E.seq ?_
 refine E.opv hF (r_assign ev_c) rfl rfl rfl rfl fun a hF=>?_
 refine E.nil ?_
 refine wp_seq ?_
 refine E.seq ?_
 refine E.opv hF (r_move (hF.at 1 rfl)) rfl rfl rfl rfl fun a hF=>?_
 refine S.call st hF (r_call Tryz.func47 en47.1 en47.2 (map1 (hF.at 0 rfl))) (skDay_any n _ (by omega) (by omega)) (fun _ _ h=>h) Rq.cl rfl rfl rfl rfl fun vv2 w1 a st hF=>?_
 obtain⟨b4,ad4,n4,c4,ae4,m4,d4,rfl⟩:=Rq.form (st.f 0 rfl)
 refine S.callx st hF (r_call Tryz.func30 en30.1 en30.2 (map1 (hF.at 0 rfl))) (oSign_any _ _ 2 _ (hT.below st.bel) (st.f 0 rfl) (dnext_lim (n:=n) (by omega) (by omega)) (by omega)) rfl rfl rfl rfl fun w5 a st hF=>?_
 refine E.opv hF (r_move (hF.at 4 rfl)) rfl rfl rfl rfl fun a hF=>?_
 refine S.call st hF (r_call Tryz.func20 en20.1 en20.2 (map1 (hF.at 0 rfl))) (rWhole_any (n) _ (by omega) (by omega)) (fun _ _ h=>h) Rq.cl rfl rfl rfl rfl fun vv7 w6 a st hF=>?_
 obtain⟨b9,ad9,n9,c9,ae9,m9,d9,rfl⟩:=Rq.form (st.f 0 rfl)
 refine S.callx st hF (r_call Tryz.func30 en30.1 en30.2 (map1 (hF.at 0 rfl))) (oSign_any _ _ 2 _ (hT.below st.bel) (st.f 0 rfl) (rlim_int (limz_64 (by omega) (by omega)) (by omega)) (by omega)) rfl rfl rfl rfl fun w10 a st hF=>?_
 refine E.opv hF (r_bin (hF.at 3 rfl) (hF.at 0 rfl) eg_scalar (bi_int (ic_neq (c:=decide (prt (sunV (((n+1:Int):Rat))) 12≠prt (sunV (((n:Int):Rat))) 12)) rfl) (by simp))) rfl rfl rfl rfl fun a hF=>?_
 refine E.opset (L':=[(2,.bool (decide (prt (sunV (((n+1:Int):Rat))) 12≠prt (sunV (((n:Int):Rat))) 12))),(9,.bool (decide (prt (sunV (((n+1:Int):Rat))) 12≠prt (sunV (((n:Int):Rat))) 12))),(8,.int .i64 (prt (sunV (((n:Int):Rat))) 12)),(7,.agg #[.bool b9,.slice ad9 n9 c9,.slice ae9 m9 d9]),(6,.int .i64 n),(5,.int .i64 (prt (sunV (((n+1:Int):Rat))) 12)),(4,.agg #[.bool b4,.slice ad4 n4 c4,.slice ae4 m4 d4]),(3,.int .i64 n),(0,.int .i64 n)]) hF (r_assign (hF.at 0 rfl)) rfl rfl rfl rfl fun a hF=>?_
 refine E.nil ?_
 refine wp_ret ?_
 have bel:=st.bel
 refine bodyPost_ret (res_tmp Tryz.results27 (hF.at 0 rfl)) hF.dfr ?_
 exact⟨rfl,bel⟩
theorem entryF_any (v1:Value) (qt:Rat) (k:Nat) (was:Int) (go:Nat) (w:World) (ho:Blk w go [.int .i64 was]) (hT:TabD w) (h1:Rq w v1 qt) (hl:RLim qt k) (hk:k≤100):
 Calls Tryz.prog 72 #[v1,.pointer (some ⟨go,0,none⟩)] w (ValPost w (.bool (notI 0 was qt))):=by
 have st:=St.start w
 refine E.enter (nt:=8) (L:=[(0,v1),(1,.pointer (some ⟨go,0,none⟩))]) Tryz.func72 rfl rfl rfl (args_cons (i:=0) rfl (args_cons (i:=1) rfl args_nil)) ?_
 intro a hF
 refine wp_seq ?_
 refine E.seq ?_
 obtain⟨b2,ad2,n2,c2,ae2,m2,d2,rfl⟩:=Rq.form h1
 refine S.box st hF (hF.at 0 rfl) rfl rfl fun g2 w1 a st hF=>?_
 refine E.opv hF (r_assign ev_c) rfl rfl rfl rfl fun a hF=>?_
 refine E.nil ?_
 refine wp_seq ?_
 refine E.drawn 4 mixed hF [4,5,6,7] [(fun _ v=>v= .agg #[.bool b2,.slice ad2 n2 c2,.slice ae2 m2 d2]),(fun _ v=>v= .int .i64 (prt (sunV (qt)) 12)),(fun _ v=>v= .int .i64 was),(fun _ v=>v= .bool (decide (prt (sunV (qt)) 12≠was)))] [] (by decide+kernel) (by decide+kernel) rfl rfl rfl ⟨(Mb.eq _),(Mb.eq _),(Mb.eq _),(Mb.eq _),trivial⟩ trivial ⟨?_,?_,?_,?_,trivial⟩ ?_
 ·intro a' w' hF' hb hd
  exact dv0 (r_load (hF'.at 1 rfl) (ld_all ty_Rat ((st.bk 0 rfl).below hb) rfl)) rfl rfl rfl
 ·intro a' w' hF' hb hd
  have e4:=sHe hd 0 4 rfl rfl rfl rfl
  exact dcx0 (r_call Tryz.func30 en30.1 en30.2 (map1 e4)) (oSign_any _ (qt) k _ (hT.below (below_to st.bel hb)) (h1.below (below_to st.bel hb)) hl (by omega)) (fun _=>rfl) rfl rfl
 ·intro a' w' hF' hb hd
  exact dv0 (r_load (hF'.at 3 rfl) (ldb_int (v:= .int .i64 was) (ho.below (below_to st.bel hb)) rfl)) rfl rfl rfl
 ·intro a' w' hF' hb hd
  have e5:=sHe hd 0 5 rfl rfl rfl rfl
  have e6:=sHe hd 1 6 rfl rfl rfl rfl
  exact dv0 (r_bin e5 e6 eg_scalar (bi_int (ic_neq (c:=decide (prt (sunV (qt)) 12≠was)) rfl) (by simp))) rfl rfl rfl
 intro a w3 hF bb hall hne
 replace st:=st.to bb
 have e7:=sSe hall 3 7 rfl rfl
 clear hall hne bb
 replace hF:=hF.add e7
 clear e7
 refine E.opset (L':=[(3,.bool (decide (prt (sunV (qt)) 12≠was))),(7,.bool (decide (prt (sunV (qt)) 12≠was))),(2,.pointer (some ⟨g2,0,none⟩)),(0,.agg #[.bool b2,.slice ad2 n2 c2,.slice ae2 m2 d2]),(1,.pointer (some ⟨go,0,none⟩))]) hF (r_assign (hF.at 0 rfl)) rfl rfl rfl rfl fun a hF=>?_
 refine E.nil ?_
 refine wp_ret ?_
 have bel:=st.bel
 refine bodyPost_ret (res_tmp Tryz.results72 (hF.at 0 rfl)) hF.dfr ?_
 exact⟨rfl,bel⟩
theorem ask_entry (was:Int) (go:Nat) (w:World) (hT:TabD w) (ho:Blk w go [.int .i64 was]):AskP w 72 #[.pointer (some ⟨go,0,none⟩)] 100 (notI 0 was):=
 ⟨⟨_,Tryz.func72,en72.1,en72.2⟩,fun v q w' hb hv hl=>entryF_any v q 100 was go w' (ho.below hb) (hT.below hb) hv hl (by decide)⟩
theorem skEntry_any (n:Int) (w:World) (hT:TabD w) (hn0: -9000000000000000000≤n) (hn1:n≤9000000000000000000):
 Calls Tryz.prog 28 #[.int .i64 n] w ((fun e w'=>∃v u,e= .returned (.tuple #[v,u])∧Rq w' v (hlo (notI 0 (kI 0 ((n:Int):Rat))) ((n:Int):Rat) (((n+1:Int)):Rat) 21)∧Rq w' u (hhi (notI 0 (kI 0 ((n:Int):Rat))) ((n:Int):Rat) (((n+1:Int)):Rat) 21)∧Below w.heap.size w w')):=by
 have st:=St.start w
 refine E.enter (nt:=13) (L:=[(0,.int .i64 n)]) Tryz.func28 rfl rfl rfl (args_cons (i:=0) rfl args_nil) ?_
 intro a hF
 refine wp_seq ?_
 refine E.seq ?_
 refine S.alloc st hF ty_Rat rfl rfl fun g2 w1 a st hF=>?_
 refine S.alloc st hF ty_Rat rfl rfl fun g3 w2 a st hF=>?_
 refine E.nil ?_
 refine wp_seq ?_
 refine E.seq ?_
 refine E.opv hF (r_move (hF.at 2 rfl)) rfl rfl rfl rfl fun a hF=>?_
 refine S.call st hF (r_call Tryz.func20 en20.1 en20.2 (map1 (hF.at 0 rfl))) (rWhole_any (n) _ (by omega) (by omega)) (fun _ _ h=>h) Rq.cl rfl rfl rfl rfl fun vv4 w3 a st hF=>?_
 obtain⟨b6,ad6,n6,c6,ae6,m6,d6,rfl⟩:=Rq.form (st.f 0 rfl)
 refine S.callx st hF (r_call Tryz.func30 en30.1 en30.2 (map1 (hF.at 0 rfl))) (oSign_any _ _ 2 _ (hT.below st.bel) (st.f 0 rfl) (rlim_int (limz_64 (by omega) (by omega)) (by omega)) (by omega)) rfl rfl rfl rfl fun w7 a st hF=>?_
 refine S.newI st hF 0 rfl sz_int ze_int rfl rfl fun g4 w8 a st hF=>?_
 refine E.nil ?_
 refine wp_seq ?_
 refine E.seq ?_
 refine E.opv hF (r_move (hF.at 6 rfl)) rfl rfl rfl rfl fun a hF=>?_
 refine E.opv hF (r_makeFunc map0 (map1 (hF.at 1 rfl))) rfl rfl rfl rfl fun a hF=>?_
 refine S.call2 st hF (r_call Tryz.func49 en49.1 en49.2 (map3 (hF.at 1 rfl) ev_c (hF.at 0 rfl))) (hday_any n 21 21 _ _ (notI 0 (prt (sunV (((n:Int):Rat))) 12)) _ (by decide) (by omega) (by omega) (by omega) ((ask_entry (prt (sunV (((n:Int):Rat))) 12) _ _ (hT.below st.bel) (st.bk 0 rfl)).to (by omega))) (fun _ _ h=>h) Rq.cl Rq.cl rfl rfl rfl rfl fun vv10 vv11 w9 a st hF=>?_
 obtain⟨b14,ad14,n14,c14,ae14,m14,d14,rfl⟩:=Rq.form (st.f 0 rfl)
 obtain⟨b15,ad15,n15,c15,ae15,m15,d15,rfl⟩:=Rq.form (st.f 1 rfl)
 refine E.opv hF (r_extract (v:= .agg #[.bool b14,.slice ad14 n14 c14,.slice ae14 m14 d14]) (hF.at 0 rfl) rfl) rfl rfl rfl rfl fun a hF=>?_
 refine E.opv hF (r_extract (v:= .agg #[.bool b15,.slice ad15 n15 c15,.slice ae15 m15 d15]) (hF.at 1 rfl) rfl) rfl rfl rfl rfl fun a hF=>?_
 refine S.sto st hF 2 rfl (hF.at 10 rfl) (hF.at 1 rfl) ty_Rat rfl rfl rfl rfl fun w16 a st hF=>?_
 refine S.sto st hF 1 rfl (hF.at 9 rfl) (hF.at 0 rfl) ty_Rat rfl rfl rfl rfl fun w17 a st hF=>?_
 refine E.nil ?_
 refine wp_ret ?_
 have bel:=st.bel
 refine bodyPost_ret (res_cell2 Tryz.results28 (hF.at 10 rfl) (ld_all ty_Rat (st.bk 2 rfl) rfl) (hF.at 9 rfl) (ld_all ty_Rat (st.bk 1 rfl) rfl)) hF.dfr ?_
 exact⟨_,_,rfl,(st.f 0 rfl),(st.f 1 rfl),bel⟩
theorem skParts_any (c:Int) (w:World):
 Calls Tryz.prog 36 #[.int .i64 c] w (ValPost w (.int .i64 (kP c))):=by
 have st:=St.start w
 refine E.enter (nt:=14) (L:=[(0,.int .i64 c)]) Tryz.func36 rfl rfl rfl (args_cons (i:=0) rfl args_nil) ?_
 intro a hF
 refine wp_seq ?_
 refine E.seq ?_
 refine E.opv hF (r_assign ev_c) rfl rfl rfl rfl fun a hF=>?_
 refine E.nil ?_
 refine wp_seq ?_
 refine E.seq ?_
 refine E.opv hF (r_build (pair5 ev_c ev_c ev_c ev_c ev_c) (bd_A5_01234 _ _ _ _ _ _)) rfl rfl rfl rfl fun a hF=>?_
 refine S.new st hF 0 rfl ty_A5 rfl rfl rfl rfl rfl fun g3 w1 a st hF=>?_
 refine E.nil ?_
 refine wp_seq ?_
 refine wp_seq ?_
 refine E.seq ?_
 refine E.opv hF (r_move (hF.at 3 rfl)) rfl rfl rfl rfl fun a hF=>?_
 by_cases hc2:c<0
 ·first
  |(exfalso;omega)
  |(refine E.opv hF (r_bin (hF.at 0 rfl) ev_c eg_scalar (bi_int (ic_lss (c:=true) (dec_tt hc2)) (by simp))) rfl rfl rfl rfl fun a hF=>?_
    refine E.opv hF (r_move (hF.at 0 rfl)) rfl rfl rfl rfl fun a hF=>?_
    refine E.unwanted hF (wanted_by rfl rfl (hF.at 0 rfl) rfl) rfl rfl rfl fun a hF=>?_
    refine E.unwanted hF (wanted_by rfl rfl (hF.at 1 rfl) rfl) rfl rfl rfl fun a hF=>?_
    refine E.opv hF (r_pick_t (hF.at 2 rfl) ev_c) rfl rfl rfl rfl fun a hF=>?_
    refine E.nil ?_
    refine wp_cond_true (hF.at 0 rfl) ?_
    refine wp_seq ?_
    refine E.seq ?_
    refine E.opset (L':=[(2,.int .i64 0),(10,.bool true),(9,undef),(8,undef),(7,.bool true),(6,.bool true),(5,.int .i64 c),(3,.pointer (some ⟨g3,0,none⟩)),(4,.agg #[.int .i64 12,.int .i64 30,.int .i64 27,.int .i64 27,.int .i64 60]),(0,.int .i64 c)]) hF (r_assign ev_c) rfl rfl rfl rfl fun a hF=>?_
    refine E.nil ?_
    refine wp_ret ?_
    have bel:=st.bel
    refine bodyPost_ret (res_tmp Tryz.results36 (hF.at 0 rfl)) hF.dfr ?_
    exact⟨rv_int (by unfold kP;exact(if_neg (by omega)).symm),bel⟩)
 ·first
  |(exfalso;omega)
  |(refine E.opv hF (r_bin (hF.at 0 rfl) ev_c eg_scalar (bi_int (ic_lss (c:=false) (dec_ff hc2)) (by simp))) rfl rfl rfl rfl fun a hF=>?_
    refine E.opv hF (r_move (hF.at 0 rfl)) rfl rfl rfl rfl fun a hF=>?_
    refine E.opvg hF (r_move (hF.at 6 rfl)) (wanted_by rfl rfl (hF.at 0 rfl) rfl) rfl rfl rfl fun a hF=>?_
    by_cases hc3:5≤c
    ·first
     |(exfalso;omega)
     |(refine E.opvg hF (r_bin (hF.at 0 rfl) ev_c eg_scalar (bi_int (ic_geq (c:=true) (dec_tt hc3)) (by simp))) (wanted_by rfl rfl (hF.at 1 rfl) rfl) rfl rfl rfl fun a hF=>?_
       refine E.opv hF (r_pick_f (hF.at 2 rfl) (hF.at 0 rfl)) rfl rfl rfl rfl fun a hF=>?_
       refine E.nil ?_
       refine wp_cond_true (hF.at 0 rfl) ?_
       refine wp_seq ?_
       refine E.seq ?_
       refine E.opset (L':=[(2,.int .i64 0),(10,.bool true),(9,.bool true),(8,.int .i64 c),(7,.bool false),(6,.bool false),(5,.int .i64 c),(3,.pointer (some ⟨g3,0,none⟩)),(4,.agg #[.int .i64 12,.int .i64 30,.int .i64 27,.int .i64 27,.int .i64 60]),(0,.int .i64 c)]) hF (r_assign ev_c) rfl rfl rfl rfl fun a hF=>?_
       refine E.nil ?_
       refine wp_ret ?_
       have bel:=st.bel
       refine bodyPost_ret (res_tmp Tryz.results36 (hF.at 0 rfl)) hF.dfr ?_
       exact⟨rv_int (by unfold kP;exact(if_neg (by omega)).symm),bel⟩)
    ·first
     |(exfalso;omega)
     |(refine E.opvg hF (r_bin (hF.at 0 rfl) ev_c eg_scalar (bi_int (ic_geq (c:=false) (dec_ff hc3)) (by simp))) (wanted_by rfl rfl (hF.at 1 rfl) rfl) rfl rfl rfl fun a hF=>?_
       refine E.opv hF (r_pick_f (hF.at 2 rfl) (hF.at 0 rfl)) rfl rfl rfl rfl fun a hF=>?_
       refine E.nil ?_
       refine wp_cond_false (hF.at 0 rfl) ?_
       refine wp_skip ?_
       refine E.norm ?_
       refine wp_seq ?_
       refine E.seq ?_
       refine E.opv hF (r_move (hF.at 9 rfl)) rfl rfl rfl rfl fun a hF=>?_
       refine E.opv hF (r_index (hF.at 7 rfl) (hF.at 0 rfl) (ix_A5 (by omega) (by omega))) rfl rfl rfl rfl fun a hF=>?_
       refine E.opv hF (r_load (hF.at 0 rfl) (ldb_int (v:= .int .i64 (kN c)) (st.bk 0 rfl) (kN_ix (by omega) (by omega)))) rfl rfl rfl rfl fun a hF=>?_
       refine E.opset (L':=[(2,.int .i64 (kN c)),(13,.int .i64 (kN c)),(12,.pointer (some ⟨g3,(c).toNat,none⟩)),(11,.int .i64 c),(10,.bool false),(9,.bool false),(8,.int .i64 c),(7,.bool false),(6,.bool false),(5,.int .i64 c),(3,.pointer (some ⟨g3,0,none⟩)),(4,.agg #[.int .i64 12,.int .i64 30,.int .i64 27,.int .i64 27,.int .i64 60]),(0,.int .i64 c)]) hF (r_assign (hF.at 0 rfl)) rfl rfl rfl rfl fun a hF=>?_
       refine E.nil ?_
       refine wp_ret ?_
       have bel:=st.bel
       refine bodyPost_ret (res_tmp Tryz.results36 (hF.at 0 rfl)) hF.dfr ?_
       exact⟨rv_int (by unfold kP;exact(if_pos (by omega)).symm),bel⟩))
theorem skIndex_any (c:Int) (v1:Value) (qt:Rat) (k:Nat) (w:World) (hT:TabD w) (h1:Rq w v1 qt) (hl:RLim qt k) (hk:k≤100):
 Calls Tryz.prog 33 #[.int .i64 c,v1] w (ValPost w (.int .i64 (kX c qt))):=by
 have hp3:=prt_bd (x:=phaseV qt) (n:=30) (by omega) (phaseV_low _) (phaseV_high _)
 have hp6:=prt_bd (x:=phaseV qt) (n:=60) (by omega) (phaseV_low _) (phaseV_high _)
 have hp2:=prt_bd (x:=moonV qt) (n:=27) (by omega) (moonV_low _) (moonV_high _)
 have hpy:=prt_bd (x:=yogaV qt) (n:=27) (by omega) (rmod_low c360_pos) (rmod_high c360_pos)
 have st:=St.start w
 refine E.enter (nt:=33) (L:=[(0,.int .i64 c),(1,v1)]) Tryz.func33 rfl rfl rfl (args_cons (i:=0) rfl (args_cons (i:=1) rfl args_nil)) ?_
 intro a hF
 refine wp_seq ?_
 refine E.seq ?_
 obtain⟨b2,ad2,n2,c2,ae2,m2,d2,rfl⟩:=Rq.form h1
 refine S.box st hF (hF.at 1 rfl) rfl rfl fun g3 w1 a st hF=>?_
 refine E.opv hF (r_assign ev_c) rfl rfl rfl rfl fun a hF=>?_
 refine E.nil ?_
 refine wp_seq ?_
 refine wp_seq ?_
 refine E.seq ?_
 refine E.opv hF (r_move (hF.at 2 rfl)) rfl rfl rfl rfl fun a hF=>?_
 refine E.nil ?_
 refine wp_block ?_
 refine wp_seq ?_
 refine E.seq ?_
 by_cases hc3:c=0
 ·first
  |(exfalso;omega)
  |(refine E.opv hF (r_bin (hF.at 0 rfl) ev_c eg_scalar (bi_int (ic_eql (c:=true) (dec_tt hc3)) (by simp))) rfl rfl rfl rfl fun a hF=>?_
    refine E.opv hF (r_assign (hF.at 0 rfl)) rfl rfl rfl rfl fun a hF=>?_
    refine E.nil ?_
    refine wp_cond_true (hF.at 0 rfl) ?_
    refine wp_seq ?_
    refine E.seq ?_
    refine E.opv hF (r_load (hF.at 4 rfl) (ld_all ty_Rat (st.bk 0 rfl) rfl)) rfl rfl rfl rfl fun a hF=>?_
    refine S.callx st hF (r_call Tryz.func30 en30.1 en30.2 (map1 (hF.at 0 rfl))) (oSign_any _ (qt) k _ (hT.below st.bel) (h1.below st.bel) hl (by omega)) rfl rfl rfl rfl fun w4 a st hF=>?_
    refine E.opset (L':=[(4,.int .i64 (prt (sunV (qt)) 12)),(9,.int .i64 (prt (sunV (qt)) 12)),(8,.agg #[.bool b2,.slice ad2 n2 c2,.slice ae2 m2 d2]),(6,.bool true),(7,.bool true),(5,.int .i64 c),(3,.pointer (some ⟨g3,0,none⟩)),(0,.int .i64 c),(1,.agg #[.bool b2,.slice ad2 n2 c2,.slice ae2 m2 d2])]) hF (r_assign (hF.at 0 rfl)) rfl rfl rfl rfl fun a hF=>?_
    refine E.nil ?_
    refine wp_ret ?_
    have bel:=st.bel
    refine bodyPost_ret (res_tmp Tryz.results33 (hF.at 0 rfl)) hF.dfr ?_
    exact⟨rv_int (by have e:=kX_0 qt;rw[hc3];omega),bel⟩)
 ·first
  |(exfalso;omega)
  |(refine E.opv hF (r_bin (hF.at 0 rfl) ev_c eg_scalar (bi_int (ic_eql (c:=false) (dec_ff hc3)) (by simp))) rfl rfl rfl rfl fun a hF=>?_
    refine E.opv hF (r_assign (hF.at 0 rfl)) rfl rfl rfl rfl fun a hF=>?_
    refine E.nil ?_
    refine wp_cond_false (hF.at 0 rfl) ?_
    refine wp_seq ?_
    refine E.seq ?_
    by_cases hc5:c=1
    ·first
     |(exfalso;omega)
     |(refine E.opv hF (r_bin (hF.at 2 rfl) ev_c eg_scalar (bi_int (ic_eql (c:=true) (dec_tt hc5)) (by simp))) rfl rfl rfl rfl fun a hF=>?_
       refine E.opv hF (r_assign (hF.at 0 rfl)) rfl rfl rfl rfl fun a hF=>?_
       refine E.nil ?_
       refine wp_cond_true (hF.at 0 rfl) ?_
       refine wp_seq ?_
       refine E.seq ?_
       refine E.opv hF (r_load (hF.at 6 rfl) (ld_all ty_Rat (st.bk 0 rfl) rfl)) rfl rfl rfl rfl fun a hF=>?_
       refine S.callx st hF (r_call Tryz.func42 en42.1 en42.2 (map1 (hF.at 0 rfl))) (oTithi_any _ (qt) k _ (hT.below st.bel) (h1.below st.bel) hl (by omega)) rfl rfl rfl rfl fun w6 a st hF=>?_
       refine E.opv hF (r_bin (hF.at 0 rfl) ev_c eg_scalar (ia_sub (by omega) (by omega))) rfl rfl rfl rfl fun a hF=>?_
       refine E.opset (L':=[(4,.int .i64 ((prt (phaseV (qt)) 30+1)-1)),(14,.int .i64 ((prt (phaseV (qt)) 30+1)-1)),(13,.int .i64 (prt (phaseV (qt)) 30+1)),(12,.agg #[.bool b2,.slice ad2 n2 c2,.slice ae2 m2 d2]),(10,.bool true),(11,.bool true),(6,.bool false),(7,.bool false),(5,.int .i64 c),(3,.pointer (some ⟨g3,0,none⟩)),(0,.int .i64 c),(1,.agg #[.bool b2,.slice ad2 n2 c2,.slice ae2 m2 d2])]) hF (r_assign (hF.at 0 rfl)) rfl rfl rfl rfl fun a hF=>?_
       refine E.nil ?_
       refine wp_ret ?_
       have bel:=st.bel
       refine bodyPost_ret (res_tmp Tryz.results33 (hF.at 0 rfl)) hF.dfr ?_
       exact⟨rv_int (by have e:=kX_1 qt;rw[hc5];omega),bel⟩)
    ·first
     |(exfalso;omega)
     |(refine E.opv hF (r_bin (hF.at 2 rfl) ev_c eg_scalar (bi_int (ic_eql (c:=false) (dec_ff hc5)) (by simp))) rfl rfl rfl rfl fun a hF=>?_
       refine E.opv hF (r_assign (hF.at 0 rfl)) rfl rfl rfl rfl fun a hF=>?_
       refine E.nil ?_
       refine wp_cond_false (hF.at 0 rfl) ?_
       refine wp_seq ?_
       refine E.seq ?_
       by_cases hc7:c=2
       ·first
        |(exfalso;omega)
        |(refine E.opv hF (r_bin (hF.at 4 rfl) ev_c eg_scalar (bi_int (ic_eql (c:=true) (dec_tt hc7)) (by simp))) rfl rfl rfl rfl fun a hF=>?_
          refine E.opv hF (r_assign (hF.at 0 rfl)) rfl rfl rfl rfl fun a hF=>?_
          refine E.nil ?_
          refine wp_cond_true (hF.at 0 rfl) ?_
          refine wp_seq ?_
          refine E.seq ?_
          refine E.opv hF (r_load (hF.at 8 rfl) (ld_all ty_Rat (st.bk 0 rfl) rfl)) rfl rfl rfl rfl fun a hF=>?_
          refine S.callx st hF (r_call Tryz.func40 en40.1 en40.2 (map1 (hF.at 0 rfl))) (oElem_any _ (qt) k _ (hT.below st.bel) (h1.below st.bel) hl (by omega)) rfl rfl rfl rfl fun w8 a st hF=>?_
          refine E.opv hF (r_fieldv (hF.at 0 rfl) (fv_Elem_2 _ _ _ _ _ _)) rfl rfl rfl rfl fun a hF=>?_
          refine E.opv hF (r_bin (hF.at 0 rfl) ev_c eg_scalar (ia_sub (by omega) (by omega))) rfl rfl rfl rfl fun a hF=>?_
          refine E.opset (L':=[(4,.int .i64 ((prt (moonV (qt)) 27+1)-1)),(20,.int .i64 ((prt (moonV (qt)) 27+1)-1)),(19,.int .i64 (prt (moonV (qt)) 27+1)),(18,.agg #[.int .i64 (prt (sunV (qt)) 12),.int .i64 (prt (phaseV (qt)) 30+1),.int .i64 (prt (moonV (qt)) 27+1),.int .i64 (prt (yogaV (qt)) 27+1),.int .i64 (prt (phaseV (qt)) 60+1)]),(17,.agg #[.bool b2,.slice ad2 n2 c2,.slice ae2 m2 d2]),(15,.bool true),(16,.bool true),(10,.bool false),(11,.bool false),(6,.bool false),(7,.bool false),(5,.int .i64 c),(3,.pointer (some ⟨g3,0,none⟩)),(0,.int .i64 c),(1,.agg #[.bool b2,.slice ad2 n2 c2,.slice ae2 m2 d2])]) hF (r_assign (hF.at 0 rfl)) rfl rfl rfl rfl fun a hF=>?_
          refine E.nil ?_
          refine wp_ret ?_
          have bel:=st.bel
          refine bodyPost_ret (res_tmp Tryz.results33 (hF.at 0 rfl)) hF.dfr ?_
          exact⟨rv_int (by have e:=kX_2 qt;rw[hc7];omega),bel⟩)
       ·first
        |(exfalso;omega)
        |(refine E.opv hF (r_bin (hF.at 4 rfl) ev_c eg_scalar (bi_int (ic_eql (c:=false) (dec_ff hc7)) (by simp))) rfl rfl rfl rfl fun a hF=>?_
          refine E.opv hF (r_assign (hF.at 0 rfl)) rfl rfl rfl rfl fun a hF=>?_
          refine E.nil ?_
          refine wp_cond_false (hF.at 0 rfl) ?_
          refine wp_seq ?_
          refine E.seq ?_
          by_cases hc9:c=3
          ·first
           |(exfalso;omega)
           |(refine E.opv hF (r_bin (hF.at 6 rfl) ev_c eg_scalar (bi_int (ic_eql (c:=true) (dec_tt hc9)) (by simp))) rfl rfl rfl rfl fun a hF=>?_
             refine E.opv hF (r_assign (hF.at 0 rfl)) rfl rfl rfl rfl fun a hF=>?_
             refine E.nil ?_
             refine wp_cond_true (hF.at 0 rfl) ?_
             refine wp_seq ?_
             refine E.seq ?_
             refine E.opv hF (r_load (hF.at 10 rfl) (ld_all ty_Rat (st.bk 0 rfl) rfl)) rfl rfl rfl rfl fun a hF=>?_
             refine S.callx st hF (r_call Tryz.func40 en40.1 en40.2 (map1 (hF.at 0 rfl))) (oElem_any _ (qt) k _ (hT.below st.bel) (h1.below st.bel) hl (by omega)) rfl rfl rfl rfl fun w10 a st hF=>?_
             refine E.opv hF (r_fieldv (hF.at 0 rfl) (fv_Elem_3 _ _ _ _ _ _)) rfl rfl rfl rfl fun a hF=>?_
             refine E.opv hF (r_bin (hF.at 0 rfl) ev_c eg_scalar (ia_sub (by omega) (by omega))) rfl rfl rfl rfl fun a hF=>?_
             refine E.opset (L':=[(4,.int .i64 ((prt (yogaV (qt)) 27+1)-1)),(26,.int .i64 ((prt (yogaV (qt)) 27+1)-1)),(25,.int .i64 (prt (yogaV (qt)) 27+1)),(24,.agg #[.int .i64 (prt (sunV (qt)) 12),.int .i64 (prt (phaseV (qt)) 30+1),.int .i64 (prt (moonV (qt)) 27+1),.int .i64 (prt (yogaV (qt)) 27+1),.int .i64 (prt (phaseV (qt)) 60+1)]),(23,.agg #[.bool b2,.slice ad2 n2 c2,.slice ae2 m2 d2]),(21,.bool true),(22,.bool true),(15,.bool false),(16,.bool false),(10,.bool false),(11,.bool false),(6,.bool false),(7,.bool false),(5,.int .i64 c),(3,.pointer (some ⟨g3,0,none⟩)),(0,.int .i64 c),(1,.agg #[.bool b2,.slice ad2 n2 c2,.slice ae2 m2 d2])]) hF (r_assign (hF.at 0 rfl)) rfl rfl rfl rfl fun a hF=>?_
             refine E.nil ?_
             refine wp_ret ?_
             have bel:=st.bel
             refine bodyPost_ret (res_tmp Tryz.results33 (hF.at 0 rfl)) hF.dfr ?_
             exact⟨rv_int (by have e:=kX_3 qt;rw[hc9];omega),bel⟩)
          ·first
           |(exfalso;omega)
           |(refine E.opv hF (r_bin (hF.at 6 rfl) ev_c eg_scalar (bi_int (ic_eql (c:=false) (dec_ff hc9)) (by simp))) rfl rfl rfl rfl fun a hF=>?_
             refine E.opv hF (r_assign (hF.at 0 rfl)) rfl rfl rfl rfl fun a hF=>?_
             refine E.nil ?_
             refine wp_cond_false (hF.at 0 rfl) ?_
             refine wp_seq ?_
             refine E.seq ?_
             by_cases hc11:c=4
             ·first
              |(exfalso;omega)
              |(refine E.opv hF (r_bin (hF.at 8 rfl) ev_c eg_scalar (bi_int (ic_eql (c:=true) (dec_tt hc11)) (by simp))) rfl rfl rfl rfl fun a hF=>?_
                refine E.opv hF (r_assign (hF.at 0 rfl)) rfl rfl rfl rfl fun a hF=>?_
                refine E.nil ?_
                refine wp_cond_true (hF.at 0 rfl) ?_
                refine wp_seq ?_
                refine E.seq ?_
                refine E.opv hF (r_load (hF.at 12 rfl) (ld_all ty_Rat (st.bk 0 rfl) rfl)) rfl rfl rfl rfl fun a hF=>?_
                refine S.callx st hF (r_call Tryz.func40 en40.1 en40.2 (map1 (hF.at 0 rfl))) (oElem_any _ (qt) k _ (hT.below st.bel) (h1.below st.bel) hl (by omega)) rfl rfl rfl rfl fun w12 a st hF=>?_
                refine E.opv hF (r_fieldv (hF.at 0 rfl) (fv_Elem_4 _ _ _ _ _ _)) rfl rfl rfl rfl fun a hF=>?_
                refine E.opv hF (r_bin (hF.at 0 rfl) ev_c eg_scalar (ia_sub (by omega) (by omega))) rfl rfl rfl rfl fun a hF=>?_
                refine E.opset (L':=[(4,.int .i64 ((prt (phaseV (qt)) 60+1)-1)),(32,.int .i64 ((prt (phaseV (qt)) 60+1)-1)),(31,.int .i64 (prt (phaseV (qt)) 60+1)),(30,.agg #[.int .i64 (prt (sunV (qt)) 12),.int .i64 (prt (phaseV (qt)) 30+1),.int .i64 (prt (moonV (qt)) 27+1),.int .i64 (prt (yogaV (qt)) 27+1),.int .i64 (prt (phaseV (qt)) 60+1)]),(29,.agg #[.bool b2,.slice ad2 n2 c2,.slice ae2 m2 d2]),(27,.bool true),(28,.bool true),(21,.bool false),(22,.bool false),(15,.bool false),(16,.bool false),(10,.bool false),(11,.bool false),(6,.bool false),(7,.bool false),(5,.int .i64 c),(3,.pointer (some ⟨g3,0,none⟩)),(0,.int .i64 c),(1,.agg #[.bool b2,.slice ad2 n2 c2,.slice ae2 m2 d2])]) hF (r_assign (hF.at 0 rfl)) rfl rfl rfl rfl fun a hF=>?_
                refine E.nil ?_
                refine wp_ret ?_
                have bel:=st.bel
                refine bodyPost_ret (res_tmp Tryz.results33 (hF.at 0 rfl)) hF.dfr ?_
                exact⟨rv_int (by have e:=kX_4 qt;rw[hc11];omega),bel⟩)
             ·first
              |(exfalso;omega)
              |(refine E.opv hF (r_bin (hF.at 8 rfl) ev_c eg_scalar (bi_int (ic_eql (c:=false) (dec_ff hc11)) (by simp))) rfl rfl rfl rfl fun a hF=>?_
                refine E.opv hF (r_assign (hF.at 0 rfl)) rfl rfl rfl rfl fun a hF=>?_
                refine E.nil ?_
                refine wp_cond_false (hF.at 0 rfl) ?_
                refine wp_skip ?_
                refine E.blk ?_
                refine E.norm ?_
                refine wp_seq ?_
                refine E.seq ?_
                refine E.opset (L':=[(4,.int .i64 0),(27,.bool false),(28,.bool false),(21,.bool false),(22,.bool false),(15,.bool false),(16,.bool false),(10,.bool false),(11,.bool false),(6,.bool false),(7,.bool false),(5,.int .i64 c),(3,.pointer (some ⟨g3,0,none⟩)),(0,.int .i64 c),(1,.agg #[.bool b2,.slice ad2 n2 c2,.slice ae2 m2 d2])]) hF (r_assign ev_c) rfl rfl rfl rfl fun a hF=>?_
                refine E.nil ?_
                refine wp_ret ?_
                have bel:=st.bel
                refine bodyPost_ret (res_tmp Tryz.results33 (hF.at 0 rfl)) hF.dfr ?_
                exact⟨rv_int (kX_o qt hc3 hc5 hc7 hc9 hc11).symm,bel⟩)))))
theorem skStride_any (c:Int) (w:World):
 Calls Tryz.prog 76 #[.int .i64 c] w (RqPost w (kQ c)):=by
 have st:=St.start w
 refine E.enter (nt:=7) (L:=[(0,.int .i64 c)]) Tryz.func76 rfl rfl rfl (args_cons (i:=0) rfl args_nil) ?_
 intro a hF
 refine wp_seq ?_
 refine E.seq ?_
 refine S.alloc st hF ty_Rat rfl rfl fun g2 w1 a st hF=>?_
 refine E.nil ?_
 refine wp_seq ?_
 refine wp_seq ?_
 refine E.seq ?_
 refine E.opv hF (r_move (hF.at 1 rfl)) rfl rfl rfl rfl fun a hF=>?_
 by_cases hc2:c=0
 ·first
  |(exfalso;omega)
  |(refine E.opv hF (r_bin (hF.at 0 rfl) ev_c eg_scalar (bi_int (ic_eql (c:=true) (dec_tt hc2)) (by simp))) rfl rfl rfl rfl fun a hF=>?_
    refine E.nil ?_
    refine wp_cond_true (hF.at 0 rfl) ?_
    refine wp_seq ?_
    refine E.seq ?_
    refine S.call st hF (r_call Tryz.func20 en20.1 en20.2 (map1 ev_c)) (rWhole_any (1) _ (by decide) (by decide)) (fun _ _ h=>h) Rq.cl rfl rfl rfl rfl fun vv4 w3 a st hF=>?_
    obtain⟨b6,ad6,n6,c6,ae6,m6,d6,rfl⟩:=Rq.form (st.f 0 rfl)
    refine S.sto st hF 0 rfl (hF.at 3 rfl) (hF.at 0 rfl) ty_Rat rfl rfl rfl rfl fun w7 a st hF=>?_
    refine E.nil ?_
    refine wp_ret ?_
    refine S.ret Tryz.results76 st hF (hF.at 3 rfl) 0 rfl ty_Rat rfl hF.dfr ?_
    have bel:=st.bel
    exact⟨_,rfl,Rq.castM (st.f 0 rfl) (by unfold kQ;rw[if_pos hc2];rfl),bel⟩)
 ·first
  |(exfalso;omega)
  |(refine E.opv hF (r_bin (hF.at 0 rfl) ev_c eg_scalar (bi_int (ic_eql (c:=false) (dec_ff hc2)) (by simp))) rfl rfl rfl rfl fun a hF=>?_
    refine E.nil ?_
    refine wp_cond_false (hF.at 0 rfl) ?_
    refine wp_skip ?_
    refine E.norm ?_
    refine wp_seq ?_
    refine E.seq ?_
    refine S.call st hF (r_call Tryz.func22 en22.1 en22.2 (map2 ev_c ev_c)) (rOf2_any (1) (4) _ (by decide) (by decide) (by decide) (by decide)) (fun _ _ h=>h) Rq.cl rfl rfl rfl rfl fun vv9 w8 a st hF=>?_
    obtain⟨b11,ad11,n11,c11,ae11,m11,d11,rfl⟩:=Rq.form (st.f 0 rfl)
    refine S.sto st hF 0 rfl (hF.at 3 rfl) (hF.at 0 rfl) ty_Rat rfl rfl rfl rfl fun w12 a st hF=>?_
    refine E.nil ?_
    refine wp_ret ?_
    refine S.ret Tryz.results76 st hF (hF.at 3 rfl) 0 rfl ty_Rat rfl hF.dfr ?_
    have bel:=st.bel
    exact⟨_,rfl,Rq.castM (st.f 0 rfl) (by unfold kQ;rw[if_neg hc2];decide+kernel),bel⟩)
theorem endF_any (v1:Value) (qt:Rat) (k:Nat) (c was:Int) (gk go:Nat) (w:World) (hk0:Blk w gk [.int .i64 c]) (ho:Blk w go [.int .i64 was]) (hT:TabD w) (h1:Rq w v1 qt) (hl:RLim qt k) (hk:k≤100):
 Calls Tryz.prog 74 #[v1,.pointer (some ⟨gk,0,none⟩),.pointer (some ⟨go,0,none⟩)] w (ValPost w (.bool (notX c was qt))):=by
 have st:=St.start w
 refine E.enter (nt:=10) (L:=[(0,v1),(1,.pointer (some ⟨gk,0,none⟩)),(2,.pointer (some ⟨go,0,none⟩))]) Tryz.func74 rfl rfl rfl (args_cons (i:=0) rfl (args_cons (i:=1) rfl (args_cons (i:=2) rfl args_nil))) ?_
 intro a hF
 refine wp_seq ?_
 refine E.seq ?_
 obtain⟨b2,ad2,n2,c2,ae2,m2,d2,rfl⟩:=Rq.form h1
 refine S.box st hF (hF.at 0 rfl) rfl rfl fun g3 w1 a st hF=>?_
 refine E.opv hF (r_assign ev_c) rfl rfl rfl rfl fun a hF=>?_
 refine E.nil ?_
 refine wp_seq ?_
 refine E.drawn 5 mixed hF [5,6,7,8,9] [(fun _ v=>v= .int .i64 c),(fun _ v=>v= .agg #[.bool b2,.slice ad2 n2 c2,.slice ae2 m2 d2]),(fun _ v=>v= .int .i64 (kX c (qt))),(fun _ v=>v= .int .i64 was),(fun _ v=>v= .bool (decide (kX c (qt)≠was)))] [] (by decide+kernel) (by decide+kernel) rfl rfl rfl ⟨(Mb.eq _),(Mb.eq _),(Mb.eq _),(Mb.eq _),(Mb.eq _),trivial⟩ trivial ⟨?_,?_,?_,?_,?_,trivial⟩ ?_
 ·intro a' w' hF' hb hd
  exact dv0 (r_load (hF'.at 3 rfl) (ldb_int (v:= .int .i64 c) (hk0.below (below_to st.bel hb)) rfl)) rfl rfl rfl
 ·intro a' w' hF' hb hd
  exact dv0 (r_load (hF'.at 1 rfl) (ld_all ty_Rat ((st.bk 0 rfl).below hb) rfl)) rfl rfl rfl
 ·intro a' w' hF' hb hd
  have e5:=sHe hd 0 5 rfl rfl rfl rfl
  have e6:=sHe hd 1 6 rfl rfl rfl rfl
  exact dcx0 (r_call Tryz.func33 en33.1 en33.2 (map2 e5 e6)) (skIndex_any c _ (qt) k _ (hT.below (below_to st.bel hb)) (h1.below (below_to st.bel hb)) hl (by omega)) (fun _=>rfl) rfl rfl
 ·intro a' w' hF' hb hd
  exact dv0 (r_load (hF'.at 4 rfl) (ldb_int (v:= .int .i64 was) (ho.below (below_to st.bel hb)) rfl)) rfl rfl rfl
 ·intro a' w' hF' hb hd
  have e7:=sHe hd 0 7 rfl rfl rfl rfl
  have hkx53308:=kX_bd c (qt)
  have e8:=sHe hd 1 8 rfl rfl rfl rfl
  exact dv0 (r_bin e7 e8 eg_scalar (bi_int (ic_neq (c:=decide (kX c (qt)≠was)) rfl) (by simp))) rfl rfl rfl
 intro a w3 hF bb hall hne
 replace st:=st.to bb
 have e9:=sSe hall 4 9 rfl rfl
 clear hall hne bb
 replace hF:=hF.add e9
 clear e9
 refine E.opset (L':=[(4,.bool (decide (kX c (qt)≠was))),(9,.bool (decide (kX c (qt)≠was))),(3,.pointer (some ⟨g3,0,none⟩)),(0,.agg #[.bool b2,.slice ad2 n2 c2,.slice ae2 m2 d2]),(1,.pointer (some ⟨gk,0,none⟩)),(2,.pointer (some ⟨go,0,none⟩))]) hF (r_assign (hF.at 0 rfl)) rfl rfl rfl rfl fun a hF=>?_
 refine E.nil ?_
 refine wp_ret ?_
 have bel:=st.bel
 refine bodyPost_ret (res_tmp Tryz.results74 (hF.at 0 rfl)) hF.dfr ?_
 exact⟨rfl,bel⟩
theorem ask_end (c was:Int) (gk go:Nat) (w:World) (hT:TabD w) (hk0:Blk w gk [.int .i64 c]) (ho:Blk w go [.int .i64 was]):AskP w 74 #[.pointer (some ⟨gk,0,none⟩),.pointer (some ⟨go,0,none⟩)] 100 (notX c was):=
 ⟨⟨_,Tryz.func74,en74.1,en74.2⟩,fun v q w' hb hv hl=>endF_any v q 100 c was gk go w' (hk0.below hb) (ho.below hb) (hT.below hb) hv hl (by decide)⟩
theorem pcs_first (c:Int) (t:Rat):t+kQ c=pcs c t (((0:Nat):Int)+1):=by rw[pcs_succ,show(((0:Nat)):Int)=0 from rfl,pcs_zero]
theorem pcs_at (c:Int) (t:Rat) (i:Nat):pcs c t (((i:Nat):Int)+1)=pcs c t (((i+1:Nat)):Int):=by rw[show(((i+1:Nat)):Int)=((i:Nat):Int)+1 by omega]
theorem pcs_on (c:Int) (t:Rat) (i:Nat):pcs c t (((i:Nat):Int)+1)+kQ c=pcs c t ((((i+1:Nat)):Int)+1):=by rw[pcs_succ c t (((i+1:Nat)):Int),pcs_at]
theorem notX_f {c:Int} (h:0≤c∧c≤4) {t x:Rat} (e:¬notX c (kX c t) x=true):kI c x=kI c t:=by
 unfold notX at e
 rw[kX_is h.1 h.2,kX_is h.1 h.2,decide_eq_true_iff] at e
 exact Decidable.not_not.1 e
theorem notX_t {c:Int} (h:0≤c∧c≤4) {t x:Rat} (e:notX c (kX c t) x=true):kI c x≠kI c t:=by
 unfold notX at e
 rwa[kX_is h.1 h.2,kX_is h.1 h.2,decide_eq_true_iff] at e
theorem notX_is {c:Int} (h:0≤c∧c≤4) (t:Rat):notX c (kX c t)=notI c (kI c t):=by
 funext x
 unfold notX notI
 rw[kX_is h.1 h.2,kX_is h.1 h.2]
theorem endA_is {c:Int} (h:0≤c∧c≤4) (t:Rat):hlo (notX c (kX c t)) (pcs c t ((pieceV c t:Nat):Int)) (pcs c t (((pieceV c t:Nat):Int)+1)) 21=endA c t:=by rw[notX_is h];rfl
theorem endB_is {c:Int} (h:0≤c∧c≤4) (t:Rat):hhi (notX c (kX c t)) (pcs c t ((pieceV c t:Nat):Int)) (pcs c t (((pieceV c t:Nat):Int)+1)) 21=endB c t:=by rw[notX_is h];rfl
theorem kP_pos {c:Int} (h:0≤c∧c≤4):¬kP c=0:=by unfold kP;rw[if_pos h];have:=kN_bd c;omega
theorem skEnd_any (c:Int) (v1:Value) (qt:Rat) (k:Nat) (w:World) (hT:TabD w) (h1:Rq w v1 qt) (hl:RLim qt k) (hk:k≤25) (hk0:0≤c∧c≤4):
 Calls Tryz.prog 31 #[.int .i64 c,v1] w ((fun e w'=>∃v u,e= .returned (.tuple #[v,u])∧Rq w' v (endA c qt)∧Rq w' u (endB c qt)∧Below w.heap.size w w')):=by
 have st:=St.start w
 refine E.enter (nt:=39) (L:=[(0,.int .i64 c),(1,v1)]) Tryz.func31 rfl rfl rfl (args_cons (i:=0) rfl (args_cons (i:=1) rfl args_nil)) ?_
 intro a hF
 refine wp_seq ?_
 refine E.seq ?_
 refine S.boxI st hF (hF.at 0 rfl) rfl rfl fun g2 w1 a st hF=>?_
 obtain⟨b3,ad3,n3,c3,ae3,m3,d3,rfl⟩:=Rq.form h1
 refine S.box st hF (hF.at 2 rfl) rfl rfl fun g3 w2 a st hF=>?_
 refine S.alloc st hF ty_Rat rfl rfl fun g4 w4 a st hF=>?_
 refine S.alloc st hF ty_Rat rfl rfl fun g5 w5 a st hF=>?_
 refine E.nil ?_
 refine wp_seq ?_
 refine wp_seq ?_
 refine E.seq ?_
 refine E.opv hF (r_load (hF.at 3 rfl) (ldb_int (v:= .int .i64 c) (st.bk 3 rfl) rfl)) rfl rfl rfl rfl fun a hF=>?_
 refine S.callx st hF (r_call Tryz.func36 en36.1 en36.2 (map1 (hF.at 0 rfl))) (skParts_any c _) rfl rfl rfl rfl fun w6 a st hF=>?_
 refine E.opv hF (r_bin (hF.at 0 rfl) ev_c eg_scalar (bi_int (ic_eql (c:=false) (dec_ff (kP_pos hk0))) (by simp))) rfl rfl rfl rfl fun a hF=>?_
 refine E.nil ?_
 refine wp_cond_false (hF.at 0 rfl) ?_
 refine wp_skip ?_
 refine E.norm ?_
 refine wp_seq ?_
 refine E.seq ?_
 refine E.opv hF (r_load (hF.at 6 rfl) (ldb_int (v:= .int .i64 c) (st.bk 3 rfl) rfl)) rfl rfl rfl rfl fun a hF=>?_
 refine E.opv hF (r_load (hF.at 6 rfl) (ld_all ty_Rat (st.bk 2 rfl) rfl)) rfl rfl rfl rfl fun a hF=>?_
 refine S.callx st hF (r_call Tryz.func33 en33.1 en33.2 (map2 (hF.at 1 rfl) (hF.at 0 rfl))) (skIndex_any c _ (qt) k _ (hT.below st.bel) (h1.below st.bel) hl (by omega)) rfl rfl rfl rfl fun w7 a st hF=>?_
 have hkx53308:=kX_bd c (qt)
 refine S.newI st hF 0 rfl sz_int ze_int rfl rfl fun g6 w8 a st hF=>?_
 refine E.nil ?_
 refine wp_seq ?_
 refine E.seq ?_
 refine E.opv hF (r_makeFunc map0 (map2 (hF.at 10 rfl) (hF.at 0 rfl))) rfl rfl rfl rfl fun a hF=>?_
 refine E.opv hF (r_assign (hF.at 0 rfl)) rfl rfl rfl rfl fun a hF=>?_
 refine E.nil ?_
 refine wp_seq ?_
 refine E.drawn 7 mixed hF [19,20,21,22,23,8,9] [(fun _ v=>v= .agg #[.bool b3,.slice ad3 n3 c3,.slice ae3 m3 d3]),(fun _ v=>v= .agg #[.bool b3,.slice ad3 n3 c3,.slice ae3 m3 d3]),(fun _ v=>v= .int .i64 c),(fun w v=>Rq w v (kQ c)),(fun w v=>Rq w v ((qt)+(kQ c))),(fun w v=>∃g,v= .pointer (some ⟨g,0,none⟩)∧w8.heap.size≤g∧Own w g [.bool false,.slice none 0 0,.slice none 0 0]),(fun w v=>∃g,v= .pointer (some ⟨g,0,none⟩)∧w8.heap.size≤g∧Own w g [.bool false,.slice none 0 0,.slice none 0 0])] [5,6] (by decide+kernel) (by decide+kernel) rfl rfl rfl ⟨(Mb.eq _),(Mb.eq _),(Mb.eq _),(fun _ _ _ h hb=>h.below hb),(fun _ _ _ h hb=>h.below hb),(fun _ _ _ ⟨g,e,l,o⟩ hb=>⟨g,e,l,o.below hb⟩),(fun _ _ _ ⟨g,e,l,o⟩ hb=>⟨g,e,l,o.below hb⟩),trivial⟩ ⟨fun _ _ ⟨g,e,_,o⟩=>⟨g,e,o.lt⟩,⟨fun _ _ ⟨g,e,_,o⟩=>⟨g,e,o.lt⟩,trivial⟩⟩ ⟨?_,?_,?_,?_,?_,?_,?_,trivial⟩ ?_
 ·intro a' w' hF' hb hd
  exact dv0 (r_load (hF'.at 11 rfl) (ld_all ty_Rat ((st.bk 3 rfl).below hb) rfl)) rfl rfl rfl
 ·intro a' w' hF' hb hd
  exact dv0 (r_load (hF'.at 11 rfl) (ld_all ty_Rat ((st.bk 3 rfl).below hb) rfl)) rfl rfl rfl
 ·intro a' w' hF' hb hd
  exact dv0 (r_load (hF'.at 12 rfl) (ldb_int (v:= .int .i64 c) ((st.bk 4 rfl).below hb) rfl)) rfl rfl rfl
 ·intro a' w' hF' hb hd
  have e21:=sHe hd 0 21 rfl rfl rfl rfl
  exact dc0 (r_call Tryz.func76 en76.1 en76.2 (map1 e21)) (skStride_any c _) rfl rfl
 ·intro a' w' hF' hb hd
  have e20:=sHe hd 0 20 rfl rfl rfl rfl
  obtain⟨v22_0,e22,h22_1⟩:=sH hd 1 22 rfl rfl rfl rfl
  exact dc0 (r_call Tryz.func75 en75.1 en75.2 (map2 e20 e22)) (rAdd_any _ _ (qt) (kQ c) (max k 1) _ (h1.below (below_to st.bel hb)) h22_1 (hl.up _ (by omega)) ((kQ_lim c).up _ (by omega)) (by omega)) rfl rfl
 ·intro a' w' hF' hb hd
  exact da0 ty_Rat rfl hb.size rfl
 ·intro a' w' hF' hb hd
  exact da0 ty_Rat rfl hb.size rfl
 intro a w9 hF bb hall hne
 have s0:=st
 replace st:=st.to bb
 have e19:=sSe hall 0 19 rfl rfl
 obtain⟨vv10,e23,hh11⟩:=sS hall 4 23 rfl rfl
 replace st:=st.add hh11 (Rq.cl _)
 clear hh11
 obtain⟨_,e8,g8,rfl,ge8,o8⟩:=sS hall 5 8 rfl rfl
 replace st:=st.push o8.blk (Nat.le_trans s0.bel.size ge8) (s0.ne ge8)
 clear o8
 obtain⟨_,e9,g9,rfl,ge9,o9⟩:=sS hall 6 9 rfl rfl
 replace st:=st.push o9.blk (Nat.le_trans s0.bel.size ge9) (ne_cons (fun(e:g8=g9)=>hne 5 6 8 9 rfl rfl (by decide) rfl rfl (by rw[e8,e9,e])) (s0.ne ge9))
 clear o9
 clear hall hne bb s0
 replace hF:=hF.add e19
 clear e19
 obtain⟨b12,ad12,n12,c12,ae12,m12,d12,rfl⟩:=Rq.form (st.f 0 rfl)
 replace hF:=hF.add e23
 clear e23
 replace hF:=hF.add e8
 clear e8
 replace hF:=hF.add e9
 clear e9
 refine S.sto st hF 1 rfl (hF.at 1 rfl) (hF.at 3 rfl) ty_Rat rfl rfl rfl rfl fun w13 a st hF=>?_
 refine S.sto st hF 0 rfl (hF.at 0 rfl) (hF.at 2 rfl) ty_Rat rfl rfl rfl rfl fun w14 a st hF=>?_
 refine E.nil ?_
 refine wp_seq ?_
 refine wp_block ?_
 refine E.loop (fun mq a wv=>∃(i:Nat) (bb9:Bool) (aa9:Option Addr) (nn9:Nat) (cc9:Nat) (ee9:Option Addr) (mm9:Nat) (dd9:Nat) (bb8:Bool) (aa8:Option Addr) (nn8:Nat) (cc8:Nat) (ee8:Option Addr) (mm8:Nat) (dd8:Nat),i≤pieceV c qt∧Fr 39 a [(9,.pointer (some ⟨g9,0,none⟩)),(8,.pointer (some ⟨g8,0,none⟩)),(7,.func (.func 74) #[] #[.pointer (some ⟨g2,0,none⟩),.pointer (some ⟨g6,0,none⟩)]),(5,.pointer (some ⟨g5,0,none⟩)),(4,.pointer (some ⟨g4,0,none⟩)),(2,.pointer (some ⟨g2,0,none⟩))]∧St w wv [(g9,[.bool bb9,.slice aa9 nn9 cc9,.slice ee9 mm9 dd9]),(g8,[.bool bb8,.slice aa8 nn8 cc8,.slice ee8 mm8 dd8]),(g6,[.int .i64 (kX c (qt))]),(g5,[.bool false,.slice none 0 0,.slice none 0 0]),(g4,[.bool false,.slice none 0 0,.slice none 0 0]),(g2,[.int .i64 c])] [fun w=>Rq w (.agg #[.bool bb9,.slice aa9 nn9 cc9,.slice ee9 mm9 dd9]) (pcs c qt ((((i:Nat):Int)+1))),fun w=>Rq w (.agg #[.bool bb8,.slice aa8 nn8 cc8,.slice ee8 mm8 dd8]) (pcs c qt (((i:Nat):Int)))]∧mq=pieceV c qt-i) ((pieceV c qt-0)) ?_ ?_
 ·exact⟨0,_,_,_,_,_,_,_,_,_,_,_,_,_,_,(Nat.zero_le _),Fr.pick (L':=[(9,.pointer (some ⟨g9,0,none⟩)),(8,.pointer (some ⟨g8,0,none⟩)),(7,.func (.func 74) #[] #[.pointer (some ⟨g2,0,none⟩),.pointer (some ⟨g6,0,none⟩)]),(5,.pointer (some ⟨g5,0,none⟩)),(4,.pointer (some ⟨g4,0,none⟩)),(2,.pointer (some ⟨g2,0,none⟩))]) hF [0,1,4,13,14,16] rfl,((st.add (Rq.castM (h1.below st.bel) (pcs_zero c qt).symm) (Rq.cl _)).add (Rq.castM (st.f 0 rfl) (pcs_first c qt)) (Rq.cl _)).pick [0,1,2,3,4,6] [0,1] rfl rfl (by decide),rfl⟩
 ·rintro mq a w15 ⟨i,bb9,aa9,nn9,cc9,ee9,mm9,dd9,bb8,aa8,nn8,cc8,ee8,mm8,dd8,hi,hF,st,hm⟩
  have hps:=(piece_spec hk0.1 hk0.2 qt).1
  have hkm:=kM_bd c
  refine wp_seq ?_
  refine wp_seq ?_
  refine E.seq ?_
  refine E.opv hF (r_move (hF.at 2 rfl)) rfl rfl rfl rfl fun a hF=>?_
  refine E.opv hF (r_load (hF.at 1 rfl) (ld_all ty_Rat (st.bk 0 rfl) rfl)) rfl rfl rfl rfl fun a hF=>?_
  refine S.callx st hF (r_callv (hF.at 1 rfl) Tryz.func74 en74.1 en74.2 (map1 (hF.at 0 rfl))) ((ask_end c (kX c (qt)) _ _ _ (hT.below st.bel) (st.bk 5 rfl) (st.bk 2 rfl)).ask _ (pcs c qt (((i:Nat):Int)+1)) _ (Below.refl _ _) (st.f 0 rfl) ((pcs_lim (c:=c) hl (i:=(((i:Nat):Int)+1)) (by omega) (by omega)).up _ (by omega))) rfl rfl rfl rfl fun w16 a st hF=>?_
  by_cases hc17:(notX c (kX c (qt))) (pcs c qt (((i:Nat):Int)+1))=true
  ·first
   |(exfalso;omega)
   |(refine E.opv hF (r_un (Eq.trans (hF.at 0 rfl) (congrArg Value.bool hc17)) (bn_not _ false rfl)) rfl rfl rfl rfl fun a hF=>?_
     refine E.nil ?_
     refine wp_cond_false (hF.at 0 rfl) ?_
     refine wp_exit ?_
     refine E.past ?_
     refine E.past ?_
     refine E.out (id:=0) ?_
     refine E.norm ?_
     refine wp_seq ?_
     refine E.seq ?_
     refine E.opv hF (r_load (hF.at 5 rfl) (ld_all ty_Rat (st.bk 1 rfl) rfl)) rfl rfl rfl rfl fun a hF=>?_
     refine E.opv hF (r_load (hF.at 5 rfl) (ld_all ty_Rat (st.bk 0 rfl) rfl)) rfl rfl rfl rfl fun a hF=>?_
     refine E.opv hF (r_move (hF.at 8 rfl)) rfl rfl rfl rfl fun a hF=>?_
     refine S.call2 st hF (r_call Tryz.func43 en43.1 en43.2 (map4s (hF.at 2 rfl) (hF.at 1 rfl) ev_c (hF.at 0 rfl))) (bis_any _ _ _ _ (k+3) (k+3) 21 21 _ _ (notX c (kX c (qt))) _ (st.f 1 rfl) (st.f 0 rfl) (pcs_lim (c:=c) hl (i:=((i:Nat):Int)) (by omega) (by omega)) (pcs_lim (c:=c) hl (i:=(((i:Nat):Int)+1)) (by omega) (by omega)) (by omega) (by omega) (by decide) (by omega) ((ask_end c (kX c (qt)) _ _ _ (hT.below st.bel) (st.bk 5 rfl) (st.bk 2 rfl)).to (by omega))) (fun _ _ h=>h) Rq.cl Rq.cl rfl rfl rfl rfl fun vv19 vv20 w18 a st hF=>?_
     obtain⟨b23,ad23,n23,c23,ae23,m23,d23,rfl⟩:=Rq.form (st.f 0 rfl)
     obtain⟨b24,ad24,n24,c24,ae24,m24,d24,rfl⟩:=Rq.form (st.f 1 rfl)
     refine E.opv hF (r_extract (v:= .agg #[.bool b23,.slice ad23 n23 c23,.slice ae23 m23 d23]) (hF.at 0 rfl) rfl) rfl rfl rfl rfl fun a hF=>?_
     refine E.opv hF (r_extract (v:= .agg #[.bool b24,.slice ad24 n24 c24,.slice ae24 m24 d24]) (hF.at 1 rfl) rfl) rfl rfl rfl rfl fun a hF=>?_
     refine S.sto st hF 4 rfl (hF.at 14 rfl) (hF.at 1 rfl) ty_Rat rfl rfl rfl rfl fun w25 a st hF=>?_
     refine S.sto st hF 3 rfl (hF.at 13 rfl) (hF.at 0 rfl) ty_Rat rfl rfl rfl rfl fun w26 a st hF=>?_
     refine E.nil ?_
     refine wp_ret ?_
     have bel:=st.bel
     refine bodyPost_ret (res_cell2 Tryz.results31 (hF.at 14 rfl) (ld_all ty_Rat (st.bk 4 rfl) rfl) (hF.at 13 rfl) (ld_all ty_Rat (st.bk 3 rfl) rfl)) hF.dfr ?_
     have e:=piece_stop hk0.1 hk0.2 hi (notX_t hk0 hc17)
     subst e
     exact⟨_,_,rfl,Rq.castM (st.f 0 rfl) (endA_is hk0 qt),Rq.castM (st.f 1 rfl) (endB_is hk0 qt),bel⟩)
  ·first
   |(exfalso;omega)
   |(refine E.opv hF (r_un (Eq.trans (hF.at 0 rfl) (congrArg Value.bool (eq_false_of_ne_true hc17))) (bn_not _ true rfl)) rfl rfl rfl rfl fun a hF=>?_
     refine E.nil ?_
     refine wp_cond_true (hF.at 0 rfl) ?_
     refine wp_skip ?_
     refine E.norm ?_
     refine wp_block ?_
     refine E.drawn 5 mixed hF [28,29,30,31,32] [(fun _ v=>v= .agg #[.bool bb9,.slice aa9 nn9 cc9,.slice ee9 mm9 dd9]),(fun _ v=>v= .agg #[.bool bb9,.slice aa9 nn9 cc9,.slice ee9 mm9 dd9]),(fun _ v=>v= .int .i64 c),(fun w v=>Rq w v (kQ c)),(fun w v=>Rq w v ((pcs c qt (((i:Nat):Int)+1))+(kQ c)))] [] (by decide+kernel) (by decide+kernel) rfl rfl rfl ⟨(Mb.eq _),(Mb.eq _),(Mb.eq _),(fun _ _ _ h hb=>h.below hb),(fun _ _ _ h hb=>h.below hb),trivial⟩ trivial ⟨?_,?_,?_,?_,?_,trivial⟩ ?_
     ·intro a' w' hF' hb hd
      exact dv0 (r_load (hF'.at 4 rfl) (ld_all ty_Rat ((st.bk 0 rfl).below hb) rfl)) rfl rfl rfl
     ·intro a' w' hF' hb hd
      exact dv0 (r_load (hF'.at 4 rfl) (ld_all ty_Rat ((st.bk 0 rfl).below hb) rfl)) rfl rfl rfl
     ·intro a' w' hF' hb hd
      exact dv0 (r_load (hF'.at 9 rfl) (ldb_int (v:= .int .i64 c) ((st.bk 5 rfl).below hb) rfl)) rfl rfl rfl
     ·intro a' w' hF' hb hd
      have e30:=sHe hd 0 30 rfl rfl rfl rfl
      exact dc0 (r_call Tryz.func76 en76.1 en76.2 (map1 e30)) (skStride_any c _) rfl rfl
     ·intro a' w' hF' hb hd
      have e29:=sHe hd 0 29 rfl rfl rfl rfl
      obtain⟨v31_0,e31,h31_1⟩:=sH hd 1 31 rfl rfl rfl rfl
      exact dc0 (r_call Tryz.func75 en75.1 en75.2 (map2 e29 e31)) (rAdd_any _ _ _ (kQ c) (max (k+3) 1) _ ((st.f 0 rfl).below hb) h31_1 ((pcs_lim (c:=c) hl (i:=(((i:Nat):Int)+1)) (by omega) (by omega)).up _ (by omega)) ((kQ_lim c).up _ (by omega)) (by omega)) rfl rfl
     intro a w27 hF bb hall hne
     replace st:=st.to bb
     have e28:=sSe hall 0 28 rfl rfl
     obtain⟨vv28,e32,hh29⟩:=sS hall 4 32 rfl rfl
     replace st:=st.add hh29 (Rq.cl _)
     clear hh29
     clear hall hne bb
     replace hF:=hF.add e28
     clear e28
     obtain⟨b30,ad30,n30,c30,ae30,m30,d30,rfl⟩:=Rq.form (st.f 0 rfl)
     replace hF:=hF.add e32
     clear e32
     refine S.sto st hF 1 rfl (hF.at 7 rfl) (hF.at 1 rfl) ty_Rat rfl rfl rfl rfl fun w31 a st hF=>?_
     refine S.sto st hF 0 rfl (hF.at 6 rfl) (hF.at 0 rfl) ty_Rat rfl rfl rfl rfl fun w32 a st hF=>?_
     refine E.nil0 ?_
     refine E.blk ?_
     refine E.norm ?_
     have hgo:=piece_go hk0.1 hk0.2 hi (notX_f hk0 hc17)
     exact⟨(pieceV c qt-(i+1)),by omega,⟨(i+1),_,_,_,_,_,_,_,_,_,_,_,_,_,_,hgo,Fr.pick (L':=[(9,.pointer (some ⟨g9,0,none⟩)),(8,.pointer (some ⟨g8,0,none⟩)),(7,.func (.func 74) #[] #[.pointer (some ⟨g2,0,none⟩),.pointer (some ⟨g6,0,none⟩)]),(5,.pointer (some ⟨g5,0,none⟩)),(4,.pointer (some ⟨g4,0,none⟩)),(2,.pointer (some ⟨g2,0,none⟩))]) hF [6,7,8,9,10,11] rfl,((st.add (Rq.castM (st.f 1 rfl) (pcs_at c qt i)) (Rq.cl _)).add (Rq.castM (st.f 0 rfl) (pcs_on c qt i)) (Rq.cl _)).pick [0,1,2,3,4,5] [0,1] rfl rfl (by decide),rfl⟩⟩)
theorem skEndNo_any (c:Int) (v1:Value) (qt:Rat) (w:World) (h1:Rq w v1 qt) (hk0:¬(0≤c∧c≤4)):
 Calls Tryz.prog 31 #[.int .i64 c,v1] w ((fun e w'=>∃v u,e= .returned (.tuple #[v,u])∧Rq w' v (0)∧Rq w' u (0)∧Below w.heap.size w w')):=by
 have st:=St.start w
 refine E.enter (nt:=39) (L:=[(0,.int .i64 c),(1,v1)]) Tryz.func31 rfl rfl rfl (args_cons (i:=0) rfl (args_cons (i:=1) rfl args_nil)) ?_
 intro a hF
 refine wp_seq ?_
 refine E.seq ?_
 refine S.boxI st hF (hF.at 0 rfl) rfl rfl fun g2 w1 a st hF=>?_
 obtain⟨b3,ad3,n3,c3,ae3,m3,d3,rfl⟩:=Rq.form h1
 refine S.box st hF (hF.at 2 rfl) rfl rfl fun g3 w2 a st hF=>?_
 refine S.alloc st hF ty_Rat rfl rfl fun g4 w4 a st hF=>?_
 refine S.alloc st hF ty_Rat rfl rfl fun g5 w5 a st hF=>?_
 refine E.nil ?_
 refine wp_seq ?_
 refine wp_seq ?_
 refine E.seq ?_
 refine E.opv hF (r_load (hF.at 3 rfl) (ldb_int (v:= .int .i64 c) (st.bk 3 rfl) rfl)) rfl rfl rfl rfl fun a hF=>?_
 refine S.callx st hF (r_call Tryz.func36 en36.1 en36.2 (map1 (hF.at 0 rfl))) (skParts_any c _) rfl rfl rfl rfl fun w6 a st hF=>?_
 refine E.opv hF (r_bin (hF.at 0 rfl) ev_c eg_scalar (bi_int (ic_eql (c:=true) (dec_tt (if_neg hk0))) (by simp))) rfl rfl rfl rfl fun a hF=>?_
 refine E.nil ?_
 refine wp_cond_true (hF.at 0 rfl) ?_
 refine wp_seq ?_
 refine E.seq ?_
 refine E.opv hF (r_build (by simp) (bd_Rat_ _)) rfl rfl rfl rfl fun a hF=>?_
 refine E.opv hF (r_build (by simp) (bd_Rat_ _)) rfl rfl rfl rfl fun a hF=>?_
 refine S.sto st hF 1 rfl (hF.at 6 rfl) (hF.at 1 rfl) ty_Rat rfl rfl rfl rfl fun w7 a st hF=>?_
 refine S.sto st hF 0 rfl (hF.at 5 rfl) (hF.at 0 rfl) ty_Rat rfl rfl rfl rfl fun w8 a st hF=>?_
 refine E.nil ?_
 refine wp_ret ?_
 refine E.pastr ?_
 have bel:=st.bel
 refine bodyPost_ret (res_cell2 Tryz.results31 (hF.at 6 rfl) (ld_all ty_Rat (st.bk 1 rfl) rfl) (hF.at 5 rfl) (ld_all ty_Rat (st.bk 0 rfl) rfl)) hF.dfr ?_
 exact⟨_,_,rfl,Rq.zero _,Rq.zero _,bel⟩
end Go.Proofs.YtplngpfpcheofaaGreatDoor
