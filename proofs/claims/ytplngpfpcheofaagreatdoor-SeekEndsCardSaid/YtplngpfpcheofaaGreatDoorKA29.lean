import Derived.Test.YtplngpfpcheofaaGreatDoorKA27
import Derived.Test.YtplngpfpcheofaaGreatDoorKA28
namespace Go.Proofs.YtplngpfpcheofaaGreatDoor
open Go.RowKit
set_option maxRecDepth 100000
set_option linter.unusedVariables false
set_option maxHeartbeats 8000000
theorem en97:(Tryz.f97.name == "runtime.NumGoroutine")=false∧Tryz.f97.body.isNone=false:=⟨by decide+kernel,by kernel_rfl⟩
theorem en95:(Tryz.f95.name == "runtime.NumGoroutine")=false∧Tryz.f95.body.isNone=false:=⟨by decide+kernel,by kernel_rfl⟩
theorem en55:(Tryz.f55.name == "runtime.NumGoroutine")=false∧Tryz.f55.body.isNone=false:=⟨by decide+kernel,by kernel_rfl⟩
theorem en57:(Tryz.f57.name == "runtime.NumGoroutine")=false∧Tryz.f57.body.isNone=false:=⟨by decide+kernel,by kernel_rfl⟩
theorem en56:(Tryz.f56.name == "runtime.NumGoroutine")=false∧Tryz.f56.body.isNone=false:=⟨by decide+kernel,by kernel_rfl⟩
theorem en18:(Tryz.f18.name == "runtime.NumGoroutine")=false∧Tryz.f18.body.isNone=false:=⟨by decide+kernel,by kernel_rfl⟩
theorem en73:(Tryz.f73.name == "runtime.NumGoroutine")=false∧Tryz.f73.body.isNone=false:=⟨by decide+kernel,by kernel_rfl⟩
theorem en30:(Tryz.f30.name == "runtime.NumGoroutine")=false∧Tryz.f30.body.isNone=false:=⟨by decide+kernel,by kernel_rfl⟩
theorem en42:(Tryz.f42.name == "runtime.NumGoroutine")=false∧Tryz.f42.body.isNone=false:=⟨by decide+kernel,by kernel_rfl⟩
theorem en40:(Tryz.f40.name == "runtime.NumGoroutine")=false∧Tryz.f40.body.isNone=false:=⟨by decide+kernel,by kernel_rfl⟩
theorem en135:(Tryz.f135.name == "runtime.NumGoroutine")=false∧Tryz.f135.body.isNone=false:=⟨by decide+kernel,by kernel_rfl⟩
theorem en96:(Tryz.f96.name == "runtime.NumGoroutine")=false∧Tryz.f96.body.isNone=false:=⟨by decide+kernel,by kernel_rfl⟩
def yogaV (t:Rat):Rat:=rmod (moonV t+sunV t) ((360:Int):Rat)
theorem prt_sm {x:Rat} {n:Int} (hn:0<n) (hn2:n≤1000) (h0:0≤x) (h1:x<((360:Int):Rat)):sm64 (Rat.floor (x*(((n:Int):Rat)/((360:Int):Rat))))=prt x n:=by
 have:=prt_bd hn h0 h1
 exact sm64_t (show _≤prt x n by omega) (show prt x n≤_ by omega)
theorem oSunOrbit_any (w:World):
 Calls Tryz.prog 97 #[] w (OrbPost w pyr pay ssz sch):=by
 have st:=St.start w
 refine E.enter (nt:=6) (L:=[]) Tryz.func97 rfl rfl rfl args_nil ?_
 intro a hF
 refine wp_seq ?_
 refine E.seq ?_
 refine S.alloc st hF ty_Orb rfl rfl fun g0 w1 a st hF=>?_
 refine E.nil ?_
 refine wp_seq ?_
 refine E.seq ?_
 refine S.call st hF (r_call Tryz.func136 en136.1 en136.2 map0) (mYear_any _) (fun _ _ h=>h) Rq.cl rfl rfl rfl rfl fun vv3 w2 a st hF=>?_
 obtain⟨b5,ad5,n5,c5,ae5,m5,d5,rfl⟩:=Rq.form (st.f 0 rfl)
 refine S.call st hF (r_call Tryz.func137 en137.1 en137.2 map0) (mAnomalyYear_any _) (fun _ _ h=>h) Rq.cl rfl rfl rfl rfl fun vv7 w6 a st hF=>?_
 obtain⟨b9,ad9,n9,c9,ae9,m9,d9,rfl⟩:=Rq.form (st.f 0 rfl)
 refine S.call st hF (r_call Tryz.func22 en22.1 en22.2 (map2 ev_c ev_c)) (rOf2_any (14) (360) _ (by decide) (by decide) (by decide) (by decide)) (fun _ _ h=>h) Rq.cl rfl rfl rfl rfl fun vv11 w10 a st hF=>?_
 obtain⟨b13,ad13,n13,c13,ae13,m13,d13,rfl⟩:=Rq.form (st.f 0 rfl)
 refine S.call st hF (r_call Tryz.func22 en22.1 en22.2 (map2 ev_c ev_c)) (rOf2_any (1) (42) _ (by decide) (by decide) (by decide) (by decide)) (fun _ _ h=>h) Rq.cl rfl rfl rfl rfl fun vv15 w14 a st hF=>?_
 obtain⟨b17,ad17,n17,c17,ae17,m17,d17,rfl⟩:=Rq.form (st.f 0 rfl)
 refine E.opv hF (r_build (pair4 (hF.at 3 rfl) (hF.at 2 rfl) (hF.at 1 rfl) (hF.at 0 rfl)) (bd_Orb_0123 _ _ _ _ _ _ _ _ _ _ _ _ _ _ _ _ _ _ _ _ _ _ _ _ _ _ _ _ _)) rfl rfl rfl rfl fun a hF=>?_
 refine S.sto st hF 0 rfl (hF.at 5 rfl) (hF.at 0 rfl) ty_Orb rfl rfl rfl rfl fun w18 a st hF=>?_
 refine E.nil ?_
 refine wp_ret ?_
 refine S.ret Tryz.results97 st hF (hF.at 5 rfl) 0 rfl ty_Orb rfl hF.dfr ?_
 have bel:=st.bel
 exact⟨_,rfl,⟨_,_,_,_,_,_,_,_,_,_,_,_,_,_,_,_,_,_,_,_,_,_,_,_,_,_,_,_,rfl,(st.f 3 rfl),(st.f 2 rfl),(st.f 1 rfl),(st.f 0 rfl)⟩,bel⟩
theorem oMoonOrbit_any (w:World):
 Calls Tryz.prog 95 #[] w (OrbPost w pmo pam msz mch):=by
 have st:=St.start w
 refine E.enter (nt:=6) (L:=[]) Tryz.func95 rfl rfl rfl args_nil ?_
 intro a hF
 refine wp_seq ?_
 refine E.seq ?_
 refine S.alloc st hF ty_Orb rfl rfl fun g0 w1 a st hF=>?_
 refine E.nil ?_
 refine wp_seq ?_
 refine E.seq ?_
 refine S.call st hF (r_call Tryz.func132 en132.1 en132.2 map0) (mMonth_any _) (fun _ _ h=>h) Rq.cl rfl rfl rfl rfl fun vv3 w2 a st hF=>?_
 obtain⟨b5,ad5,n5,c5,ae5,m5,d5,rfl⟩:=Rq.form (st.f 0 rfl)
 refine S.call st hF (r_call Tryz.func133 en133.1 en133.2 map0) (mAnomalyMonth_any _) (fun _ _ h=>h) Rq.cl rfl rfl rfl rfl fun vv7 w6 a st hF=>?_
 obtain⟨b9,ad9,n9,c9,ae9,m9,d9,rfl⟩:=Rq.form (st.f 0 rfl)
 refine S.call st hF (r_call Tryz.func22 en22.1 en22.2 (map2 ev_c ev_c)) (rOf2_any (32) (360) _ (by decide) (by decide) (by decide) (by decide)) (fun _ _ h=>h) Rq.cl rfl rfl rfl rfl fun vv11 w10 a st hF=>?_
 obtain⟨b13,ad13,n13,c13,ae13,m13,d13,rfl⟩:=Rq.form (st.f 0 rfl)
 refine S.call st hF (r_call Tryz.func22 en22.1 en22.2 (map2 ev_c ev_c)) (rOf2_any (1) (96) _ (by decide) (by decide) (by decide) (by decide)) (fun _ _ h=>h) Rq.cl rfl rfl rfl rfl fun vv15 w14 a st hF=>?_
 obtain⟨b17,ad17,n17,c17,ae17,m17,d17,rfl⟩:=Rq.form (st.f 0 rfl)
 refine E.opv hF (r_build (pair4 (hF.at 3 rfl) (hF.at 2 rfl) (hF.at 1 rfl) (hF.at 0 rfl)) (bd_Orb_0123 _ _ _ _ _ _ _ _ _ _ _ _ _ _ _ _ _ _ _ _ _ _ _ _ _ _ _ _ _)) rfl rfl rfl rfl fun a hF=>?_
 refine S.sto st hF 0 rfl (hF.at 5 rfl) (hF.at 0 rfl) ty_Orb rfl rfl rfl rfl fun w18 a st hF=>?_
 refine E.nil ?_
 refine wp_ret ?_
 refine S.ret Tryz.results95 st hF (hF.at 5 rfl) 0 rfl ty_Orb rfl hF.dfr ?_
 have bel:=st.bel
 exact⟨_,rfl,⟨_,_,_,_,_,_,_,_,_,_,_,_,_,_,_,_,_,_,_,_,_,_,_,_,_,_,_,_,rfl,(st.f 3 rfl),(st.f 2 rfl),(st.f 1 rfl),(st.f 0 rfl)⟩,bel⟩
theorem oEq_any (v1 v2:Value) (qp qa qs qc qt:Rat) (k:Nat) (w:World) (hT:TabD w) (ho:Orb w v1 qp qa qs qc) (h2:Rq w v2 qt) (lqp:RLim qp 2) (lqa:RLim qa 2) (lqs:RLim qs 2) (lqc:RLim qc 2) (hl:RLim qt k) (hk:k≤100):
 Calls Tryz.prog 135 #[v1,v2] w (RqPost w (eqv qt qa qs qc)):=by
 obtain⟨qb1,qx1,qn1,qk1,qy1,qm1,qd1,qb2,qx2,qn2,qk2,qy2,qm2,qd2,qb3,qx3,qn3,qk3,qy3,qm3,qd3,qb4,qx4,qn4,qk4,qy4,qm4,qd4,rfl,hr1,hr2,hr3,hr4⟩:=ho
 have ho:Orb w (.agg #[.bool qb1,.slice qx1 qn1 qk1,.slice qy1 qm1 qd1,.bool qb2,.slice qx2 qn2 qk2,.slice qy2 qm2 qd2,.bool qb3,.slice qx3 qn3 qk3,.slice qy3 qm3 qd3,.bool qb4,.slice qx4 qn4 qk4,.slice qy4 qm4 qd4]) qp qa qs qc:=⟨_,_,_,_,_,_,_,_,_,_,_,_,_,_,_,_,_,_,_,_,_,_,_,_,_,_,_,_,rfl,hr1,hr2,hr3,hr4⟩
 have st:=St.start w
 refine E.enter (nt:=27) (L:=[(0,.agg #[.bool qb1,.slice qx1 qn1 qk1,.slice qy1 qm1 qd1,.bool qb2,.slice qx2 qn2 qk2,.slice qy2 qm2 qd2,.bool qb3,.slice qx3 qn3 qk3,.slice qy3 qm3 qd3,.bool qb4,.slice qx4 qn4 qk4,.slice qy4 qm4 qd4]),(1,v2)]) Tryz.func135 rfl rfl rfl (args_cons (i:=0) rfl (args_cons (i:=1) rfl args_nil)) ?_
 intro a hF
 refine wp_seq ?_
 refine E.seq ?_
 refine S.box st hF (hF.at 0 rfl) rfl rfl fun g2 w1 a st hF=>?_
 obtain⟨b3,ad3,n3,c3,ae3,m3,d3,rfl⟩:=Rq.form h2
 refine S.box st hF (hF.at 2 rfl) rfl rfl fun g3 w2 a st hF=>?_
 refine S.alloc st hF ty_Rat rfl rfl fun g4 w4 a st hF=>?_
 refine E.nil ?_
 refine wp_seq ?_
 refine E.seq ?_
 refine E.opv hF (r_load (hF.at 1 rfl) (ld_all ty_Rat (st.bk 1 rfl) rfl)) rfl rfl rfl rfl fun a hF=>?_
 refine E.opv hF (r_field (hF.at 3 rfl) (fa_Orb_1 (p:=3) rfl)) rfl rfl rfl rfl fun a hF=>?_
 refine E.opv hF (r_load (hF.at 0 rfl) (ld_Rat (vs:=[.bool qb2,.slice qx2 qn2 qk2,.slice qy2 qm2 qd2]) (st.b 2 rfl rfl) rfl rfl)) rfl rfl rfl rfl fun a hF=>?_
 refine S.call st hF (r_call Tryz.func134 en134.1 en134.2 (map2 (hF.at 2 rfl) (hF.at 0 rfl))) (mOf_any _ _ (qt) (qa) k 2 _ (h2.below st.bel) (hr2.below st.bel) hl lqa (by omega) (by omega)) (fun _ _ h=>h) Rq.cl rfl rfl rfl rfl fun vv6 w5 a st hF=>?_
 obtain⟨b8,ad8,n8,c8,ae8,m8,d8,rfl⟩:=Rq.form (st.f 0 rfl)
 refine S.call st hF (r_call Tryz.func164 en164.1 en164.2 (map1 (hF.at 0 rfl))) (sof_any _ _ (k+2+5) _ (hT.below st.bel) (st.f 0 rfl) (mof_lim hl lqa) (by omega)) (fun _ _ h=>h) Rq.cl rfl rfl rfl rfl fun vv10 w9 a st hF=>?_
 obtain⟨b12,ad12,n12,c12,ae12,m12,d12,rfl⟩:=Rq.form (st.f 0 rfl)
 refine S.new st hF 0 rfl ty_Rat rfl rfl rfl rfl rfl fun g5 w13 a st hF=>?_
 refine E.nil ?_
 refine wp_seq ?_
 refine E.drawn 9 mixed hF [12,13,14,15,16,17,18,19,6] [(fun _ v=>v= .agg #[.bool b12,.slice ad12 n12 c12,.slice ae12 m12 d12]),(fun w v=>Rq w v (Rat.abs (sof (mof (qt) (qa))))),(fun _ v=>v= .pointer (some ⟨g2,9,none⟩)),(fun _ v=>v= .agg #[.bool qb4,.slice qx4 qn4 qk4,.slice qy4 qm4 qd4]),(fun w v=>Rq w v ((Rat.abs (sof (mof (qt) (qa))))*(qc))),(fun _ v=>v= .pointer (some ⟨g2,6,none⟩)),(fun _ v=>v= .agg #[.bool qb3,.slice qx3 qn3 qk3,.slice qy3 qm3 qd3]),(fun w v=>Rq w v (((Rat.abs (sof (mof (qt) (qa))))*(qc))*(qs))),(fun w v=>∃g,v= .pointer (some ⟨g,0,none⟩)∧w13.heap.size≤g∧Own w g [.bool false,.slice none 0 0,.slice none 0 0])] [8] (by decide+kernel) (by decide+kernel) rfl rfl rfl ⟨(Mb.eq _),(fun _ _ _ h hb=>h.below hb),(Mb.eq _),(Mb.eq _),(fun _ _ _ h hb=>h.below hb),(Mb.eq _),(Mb.eq _),(fun _ _ _ h hb=>h.below hb),(fun _ _ _ ⟨g,e,l,o⟩ hb=>⟨g,e,l,o.below hb⟩),trivial⟩ ⟨fun _ _ ⟨g,e,_,o⟩=>⟨g,e,o.lt⟩,trivial⟩ ⟨?_,?_,?_,?_,?_,?_,?_,?_,?_,trivial⟩ ?_
 ·intro a' w' hF' hb hd
  exact dv0 (r_load (hF'.at 0 rfl) (ld_all ty_Rat ((st.bk 0 rfl).below hb) rfl)) rfl rfl rfl
 ·intro a' w' hF' hb hd
  have e12:=sHe hd 0 12 rfl rfl rfl rfl
  exact dc0 (r_call Tryz.func41 en41.1 en41.2 (map1 e12)) (rAbs_any _ _ _ ((st.f 0 rfl).below hb)) rfl rfl
 ·intro a' w' hF' hb hd
  exact dv0 (r_field (hF'.at 8 rfl) (fa_Orb_3 (p:=9) rfl)) rfl rfl rfl
 ·intro a' w' hF' hb hd
  have e14:=sHe hd 0 14 rfl rfl rfl rfl
  exact dv0 (r_load e14 (ld_Rat (vs:=[.bool qb4,.slice qx4 qn4 qk4,.slice qy4 qm4 qd4]) ((st.b 3 rfl rfl).below hb) rfl rfl)) rfl rfl rfl
 ·intro a' w' hF' hb hd
  obtain⟨v13_0,e13,h13_1⟩:=sH hd 0 13 rfl rfl rfl rfl
  have e15:=sHe hd 1 15 rfl rfl rfl rfl
  exact dc0 (r_call Tryz.func104 en104.1 en104.2 (map2 e13 e15)) (rMul_any _ _ _ (qc) (max ((k+2+5)+12) 2) _ h13_1 (hr4.below (below_to st.bel hb)) ((rlim_abs (sof_lim2 (mof_lim hl lqa))).up _ (by omega)) (lqc.up _ (by omega)) (by omega)) rfl rfl
 ·intro a' w' hF' hb hd
  exact dv0 (r_field (hF'.at 8 rfl) (fa_Orb_2 (p:=6) rfl)) rfl rfl rfl
 ·intro a' w' hF' hb hd
  have e17:=sHe hd 0 17 rfl rfl rfl rfl
  exact dv0 (r_load e17 (ld_Rat (vs:=[.bool qb3,.slice qx3 qn3 qk3,.slice qy3 qm3 qd3]) ((st.b 3 rfl rfl).below hb) rfl rfl)) rfl rfl rfl
 ·intro a' w' hF' hb hd
  obtain⟨v16_0,e16,h16_1⟩:=sH hd 0 16 rfl rfl rfl rfl
  have e18:=sHe hd 1 18 rfl rfl rfl rfl
  exact dc0 (r_call Tryz.func104 en104.1 en104.2 (map2 e16 e18)) (rMul_any _ _ _ (qs) (max (((k+2+5)+12)+2) 2) _ h16_1 (hr3.below (below_to st.bel hb)) ((rlim_mul (rlim_abs (sof_lim2 (mof_lim hl lqa))) lqc).up _ (by omega)) (lqs.up _ (by omega)) (by omega)) rfl rfl
 ·intro a' w' hF' hb hd
  exact da0 ty_Rat rfl hb.size rfl
 intro a w14 hF bb hall hne
 have s0:=st
 replace st:=st.to bb
 obtain⟨vv15,e19,hh16⟩:=sS hall 7 19 rfl rfl
 replace st:=st.add hh16 (Rq.cl _)
 clear hh16
 obtain⟨_,e6,g6,rfl,ge6,o6⟩:=sS hall 8 6 rfl rfl
 replace st:=st.push o6.blk (Nat.le_trans s0.bel.size ge6) (s0.ne ge6)
 clear o6
 clear hall hne bb s0
 obtain⟨b17,ad17,n17,c17,ae17,m17,d17,rfl⟩:=Rq.form (st.f 0 rfl)
 replace hF:=hF.add e19
 clear e19
 replace hF:=hF.add e6
 clear e6
 refine S.sto st hF 0 rfl (hF.at 0 rfl) (hF.at 1 rfl) ty_Rat rfl rfl rfl rfl fun w18 a st hF=>?_
 refine E.nil ?_
 refine wp_seq ?_
 refine E.drawn 7 mixed hF [20,21,22,23,24,25,26] [(fun _ v=>v= .agg #[.bool b12,.slice ad12 n12 c12,.slice ae12 m12 d12]),(fun _ v=>v= .pointer (some ⟨g2,6,none⟩)),(fun _ v=>v= .agg #[.bool qb3,.slice qx3 qn3 qk3,.slice qy3 qm3 qd3]),(fun _ v=>v= .agg #[.bool b17,.slice ad17 n17 c17,.slice ae17 m17 d17]),(fun w v=>Rq w v ((qs)-(((Rat.abs (sof (mof (qt) (qa))))*(qc))*(qs)))),(fun w v=>Rq w v ((sof (mof (qt) (qa)))*((qs)-(((Rat.abs (sof (mof (qt) (qa))))*(qc))*(qs))))),(fun w v=>Rq w v (arcv ((sof (mof (qt) (qa)))*((qs)-(((Rat.abs (sof (mof (qt) (qa))))*(qc))*(qs))))))] [] (by decide+kernel) (by decide+kernel) rfl rfl rfl ⟨(Mb.eq _),(Mb.eq _),(Mb.eq _),(Mb.eq _),(fun _ _ _ h hb=>h.below hb),(fun _ _ _ h hb=>h.below hb),(fun _ _ _ h hb=>h.below hb),trivial⟩ trivial ⟨?_,?_,?_,?_,?_,?_,?_,trivial⟩ ?_
 ·intro a' w' hF' hb hd
  exact dv0 (r_load (hF'.at 2 rfl) (ld_all ty_Rat ((st.bk 1 rfl).below hb) rfl)) rfl rfl rfl
 ·intro a' w' hF' hb hd
  exact dv0 (r_field (hF'.at 10 rfl) (fa_Orb_2 (p:=6) rfl)) rfl rfl rfl
 ·intro a' w' hF' hb hd
  have e21:=sHe hd 0 21 rfl rfl rfl rfl
  exact dv0 (r_load e21 (ld_Rat (vs:=[.bool qb3,.slice qx3 qn3 qk3,.slice qy3 qm3 qd3]) ((st.b 4 rfl rfl).below hb) rfl rfl)) rfl rfl rfl
 ·intro a' w' hF' hb hd
  exact dv0 (r_load (hF'.at 0 rfl) (ld_all ty_Rat ((st.bk 0 rfl).below hb) rfl)) rfl rfl rfl
 ·intro a' w' hF' hb hd
  have e22:=sHe hd 0 22 rfl rfl rfl rfl
  have e23:=sHe hd 1 23 rfl rfl rfl rfl
  exact dc0 (r_call Tryz.func37 en37.1 en37.2 (map2 e22 e23)) (rSub_any _ _ (qs) _ (max 2 ((((k+2+5)+12)+2)+2)) _ (hr3.below (below_to st.bel hb)) ((st.f 0 rfl).below hb) (lqs.up _ (by omega)) ((rlim_mul (rlim_mul (rlim_abs (sof_lim2 (mof_lim hl lqa))) lqc) lqs).up _ (by omega)) (by omega)) rfl rfl
 ·intro a' w' hF' hb hd
  have e20:=sHe hd 0 20 rfl rfl rfl rfl
  obtain⟨v24_0,e24,h24_1⟩:=sH hd 1 24 rfl rfl rfl rfl
  exact dc0 (r_call Tryz.func104 en104.1 en104.2 (map2 e20 e24)) (rMul_any _ _ _ ((qs)-(((Rat.abs _)*(qc))*(qs))) (max ((k+2+5)+12) (2+((((k+2+5)+12)+2)+2)+1)) _ ((st.f 1 rfl).below hb) h24_1 ((sof_lim2 (mof_lim hl lqa)).up _ (by omega)) ((rlim_sub lqs (rlim_mul (rlim_mul (rlim_abs (sof_lim2 (mof_lim hl lqa))) lqc) lqs)).up _ (by omega)) (by omega)) rfl rfl
 ·intro a' w' hF' hb hd
  obtain⟨v25_0,e25,h25_1⟩:=sH hd 0 25 rfl rfl rfl rfl
  exact dc0 (r_call Tryz.func165 en165.1 en165.2 (map1 e25)) (sarc_any _ _ (((k+2+5)+12)+(2+((((k+2+5)+12)+2)+2)+1)) _ (hT.below (below_to st.bel hb)) h25_1 (rlim_mul (sof_lim2 (mof_lim hl lqa)) (rlim_sub lqs (rlim_mul (rlim_mul (rlim_abs (sof_lim2 (mof_lim hl lqa))) lqc) lqs))) (by omega)) rfl rfl
 intro a w19 hF bb hall hne
 replace st:=st.to bb
 obtain⟨vv20,e26,hh21⟩:=sS hall 6 26 rfl rfl
 replace st:=st.add hh21 (Rq.cl _)
 clear hh21
 clear hall hne bb
 obtain⟨b22,ad22,n22,c22,ae22,m22,d22,rfl⟩:=Rq.form (st.f 0 rfl)
 replace hF:=hF.add e26
 clear e26
 refine S.sto st hF 2 rfl (hF.at 9 rfl) (hF.at 0 rfl) ty_Rat rfl rfl rfl rfl fun w23 a st hF=>?_
 refine E.nil ?_
 refine wp_ret ?_
 refine S.ret Tryz.results135 st hF (hF.at 9 rfl) 2 rfl ty_Rat rfl hF.dfr ?_
 have bel:=st.bel
 exact⟨_,rfl,(st.f 0 rfl),bel⟩
theorem oAround_any (v1:Value) (qt:Rat) (k:Nat) (w:World) (h1:Rq w v1 qt) (hl:RLim qt k) (hk:k≤1000):
 Calls Tryz.prog 55 #[v1] w (RqPost w (rmod qt ((360:Int):Rat))):=by
 have st:=St.start w
 refine E.enter (nt:=6) (L:=[(0,v1)]) Tryz.func55 rfl rfl rfl (args_cons (i:=0) rfl args_nil) ?_
 intro a hF
 refine wp_seq ?_
 refine E.seq ?_
 obtain⟨b2,ad2,n2,c2,ae2,m2,d2,rfl⟩:=Rq.form h1
 refine S.box st hF (hF.at 0 rfl) rfl rfl fun g1 w1 a st hF=>?_
 refine S.alloc st hF ty_Rat rfl rfl fun g2 w3 a st hF=>?_
 refine E.nil ?_
 refine wp_seq ?_
 refine E.drawn 3 mixed hF [3,4,5] [(fun _ v=>v= .agg #[.bool b2,.slice ad2 n2 c2,.slice ae2 m2 d2]),(fun w v=>Rq w v (((360:Int):Rat))),(fun w v=>Rq w v (rmod (qt) (((360:Int):Rat))))] [] (by decide+kernel) (by decide+kernel) rfl rfl rfl ⟨(Mb.eq _),(fun _ _ _ h hb=>h.below hb),(fun _ _ _ h hb=>h.below hb),trivial⟩ trivial ⟨?_,?_,?_,trivial⟩ ?_
 ·intro a' w' hF' hb hd
  exact dv0 (r_load (hF'.at 1 rfl) (ld_all ty_Rat ((st.bk 1 rfl).below hb) rfl)) rfl rfl rfl
 ·intro a' w' hF' hb hd
  exact dc0 (r_call Tryz.func20 en20.1 en20.2 (map1 ev_c)) (rWhole_any (360) _ (by decide) (by decide)) rfl rfl
 ·intro a' w' hF' hb hd
  have e3:=sHe hd 0 3 rfl rfl rfl rfl
  obtain⟨v4_0,e4,h4_1⟩:=sH hd 1 4 rfl rfl rfl rfl
  exact dc0 (r_call Tryz.func94 en94.1 en94.2 (map2 e3 e4)) (cMod_any _ _ (qt) _ k 2 _ (h1.below (below_to st.bel hb)) h4_1 hl (rlim_int (limz_64 (by decide) (by decide)) (by omega)) (by omega) (by omega)) rfl rfl
 intro a w4 hF bb hall hne
 replace st:=st.to bb
 obtain⟨vv5,e5,hh6⟩:=sS hall 2 5 rfl rfl
 replace st:=st.add hh6 (Rq.cl _)
 clear hh6
 clear hall hne bb
 obtain⟨b7,ad7,n7,c7,ae7,m7,d7,rfl⟩:=Rq.form (st.f 0 rfl)
 replace hF:=hF.add e5
 clear e5
 refine S.sto st hF 0 rfl (hF.at 1 rfl) (hF.at 0 rfl) ty_Rat rfl rfl rfl rfl fun w8 a st hF=>?_
 refine E.nil ?_
 refine wp_ret ?_
 refine S.ret Tryz.results55 st hF (hF.at 1 rfl) 0 rfl ty_Rat rfl hF.dfr ?_
 have bel:=st.bel
 exact⟨_,rfl,(st.f 0 rfl),bel⟩
theorem oAt_any (v1 v2:Value) (qp qa qs qc qt:Rat) (k:Nat) (w:World) (hT:TabD w) (ho:Orb w v1 qp qa qs qc) (h2:Rq w v2 qt) (lqp:RLim qp 2) (lqa:RLim qa 2) (lqs:RLim qs 2) (lqc:RLim qc 2) (hl:RLim qt k) (hk:k≤100):
 Calls Tryz.prog 96 #[v1,v2] w (RqPost w (atv qt qp qa qs qc)):=by
 obtain⟨qb1,qx1,qn1,qk1,qy1,qm1,qd1,qb2,qx2,qn2,qk2,qy2,qm2,qd2,qb3,qx3,qn3,qk3,qy3,qm3,qd3,qb4,qx4,qn4,qk4,qy4,qm4,qd4,rfl,hr1,hr2,hr3,hr4⟩:=ho
 have ho:Orb w (.agg #[.bool qb1,.slice qx1 qn1 qk1,.slice qy1 qm1 qd1,.bool qb2,.slice qx2 qn2 qk2,.slice qy2 qm2 qd2,.bool qb3,.slice qx3 qn3 qk3,.slice qy3 qm3 qd3,.bool qb4,.slice qx4 qn4 qk4,.slice qy4 qm4 qd4]) qp qa qs qc:=⟨_,_,_,_,_,_,_,_,_,_,_,_,_,_,_,_,_,_,_,_,_,_,_,_,_,_,_,_,rfl,hr1,hr2,hr3,hr4⟩
 have st:=St.start w
 refine E.enter (nt:=14) (L:=[(0,.agg #[.bool qb1,.slice qx1 qn1 qk1,.slice qy1 qm1 qd1,.bool qb2,.slice qx2 qn2 qk2,.slice qy2 qm2 qd2,.bool qb3,.slice qx3 qn3 qk3,.slice qy3 qm3 qd3,.bool qb4,.slice qx4 qn4 qk4,.slice qy4 qm4 qd4]),(1,v2)]) Tryz.func96 rfl rfl rfl (args_cons (i:=0) rfl (args_cons (i:=1) rfl args_nil)) ?_
 intro a hF
 refine wp_seq ?_
 refine E.seq ?_
 refine S.box st hF (hF.at 0 rfl) rfl rfl fun g2 w1 a st hF=>?_
 obtain⟨b3,ad3,n3,c3,ae3,m3,d3,rfl⟩:=Rq.form h2
 refine S.box st hF (hF.at 2 rfl) rfl rfl fun g3 w2 a st hF=>?_
 refine S.alloc st hF ty_Rat rfl rfl fun g4 w4 a st hF=>?_
 refine E.nil ?_
 refine wp_seq ?_
 refine E.drawn 9 mixed hF [5,6,7,8,9,10,11,12,13] [(fun _ v=>v= .agg #[.bool b3,.slice ad3 n3 c3,.slice ae3 m3 d3]),(fun _ v=>v= .pointer (some ⟨g2,0,none⟩)),(fun _ v=>v= .agg #[.bool qb1,.slice qx1 qn1 qk1,.slice qy1 qm1 qd1]),(fun w v=>Rq w v (mof (qt) (qp))),(fun _ v=>v= .agg #[.bool qb1,.slice qx1 qn1 qk1,.slice qy1 qm1 qd1,.bool qb2,.slice qx2 qn2 qk2,.slice qy2 qm2 qd2,.bool qb3,.slice qx3 qn3 qk3,.slice qy3 qm3 qd3,.bool qb4,.slice qx4 qn4 qk4,.slice qy4 qm4 qd4]),(fun _ v=>v= .agg #[.bool b3,.slice ad3 n3 c3,.slice ae3 m3 d3]),(fun w v=>Rq w v (eqv (qt) qa qs qc)),(fun w v=>Rq w v ((mof (qt) (qp))-(eqv (qt) qa qs qc))),(fun w v=>Rq w v (rmod ((mof (qt) (qp))-(eqv (qt) qa qs qc)) ((360:Int):Rat)))] [] (by decide+kernel) (by decide+kernel) rfl rfl rfl ⟨(Mb.eq _),(Mb.eq _),(Mb.eq _),(fun _ _ _ h hb=>h.below hb),(Mb.eq _),(Mb.eq _),(fun _ _ _ h hb=>h.below hb),(fun _ _ _ h hb=>h.below hb),(fun _ _ _ h hb=>h.below hb),trivial⟩ trivial ⟨?_,?_,?_,?_,?_,?_,?_,?_,?_,trivial⟩ ?_
 ·intro a' w' hF' hb hd
  exact dv0 (r_load (hF'.at 1 rfl) (ld_all ty_Rat ((st.bk 1 rfl).below hb) rfl)) rfl rfl rfl
 ·intro a' w' hF' hb hd
  exact dv0 (r_field (hF'.at 2 rfl) (fa_Orb_0 (p:=0) rfl)) rfl rfl rfl
 ·intro a' w' hF' hb hd
  have e6:=sHe hd 0 6 rfl rfl rfl rfl
  exact dv0 (r_load e6 (ld_Rat (vs:=[.bool qb1,.slice qx1 qn1 qk1,.slice qy1 qm1 qd1]) ((st.b 2 rfl rfl).below hb) rfl rfl)) rfl rfl rfl
 ·intro a' w' hF' hb hd
  have e5:=sHe hd 0 5 rfl rfl rfl rfl
  have e7:=sHe hd 1 7 rfl rfl rfl rfl
  exact dc0 (r_call Tryz.func134 en134.1 en134.2 (map2 e5 e7)) (mOf_any _ _ (qt) (qp) k 2 _ (h2.below (below_to st.bel hb)) (hr1.below (below_to st.bel hb)) hl lqp (by omega) (by omega)) rfl rfl
 ·intro a' w' hF' hb hd
  exact dv0 (r_load (hF'.at 2 rfl) (ld_all ty_Orb ((st.bk 2 rfl).below hb) rfl)) rfl rfl rfl
 ·intro a' w' hF' hb hd
  exact dv0 (r_load (hF'.at 1 rfl) (ld_all ty_Rat ((st.bk 1 rfl).below hb) rfl)) rfl rfl rfl
 ·intro a' w' hF' hb hd
  have e9:=sHe hd 0 9 rfl rfl rfl rfl
  have e10:=sHe hd 1 10 rfl rfl rfl rfl
  exact dc0 (r_call Tryz.func135 en135.1 en135.2 (map2 e9 e10)) (oEq_any _ _ qp qa qs qc (qt) k _ (hT.below (below_to st.bel hb)) (ho.below (below_to st.bel hb)) (h2.below (below_to st.bel hb)) lqp lqa lqs lqc hl (by omega)) rfl rfl
 ·intro a' w' hF' hb hd
  obtain⟨v8_0,e8,h8_1⟩:=sH hd 0 8 rfl rfl rfl rfl
  obtain⟨v11_0,e11,h11_1⟩:=sH hd 1 11 rfl rfl rfl rfl
  exact dc0 (r_call Tryz.func37 en37.1 en37.2 (map2 e8 e11)) (rSub_any _ _ _ _ (max (k+2+5) (2*k+2*2+2*2+2+60)) _ h8_1 h11_1 ((mof_lim hl lqp).up _ (by omega)) ((eqv_lim hl lqa lqs lqc).up _ (by omega)) (by omega)) rfl rfl
 ·intro a' w' hF' hb hd
  obtain⟨v12_0,e12,h12_1⟩:=sH hd 0 12 rfl rfl rfl rfl
  exact dc0 (r_call Tryz.func55 en55.1 en55.2 (map1 e12)) (oAround_any _ _ ((k+2+5)+(2*k+2*2+2*2+2+60)+1) _ h12_1 (rlim_sub (mof_lim hl lqp) (eqv_lim hl lqa lqs lqc)) (by omega)) rfl rfl
 intro a w5 hF bb hall hne
 replace st:=st.to bb
 obtain⟨vv6,e13,hh7⟩:=sS hall 8 13 rfl rfl
 replace st:=st.add hh7 (Rq.cl _)
 clear hh7
 clear hall hne bb
 obtain⟨b8,ad8,n8,c8,ae8,m8,d8,rfl⟩:=Rq.form (st.f 0 rfl)
 replace hF:=hF.add e13
 clear e13
 refine S.sto st hF 0 rfl (hF.at 1 rfl) (hF.at 0 rfl) ty_Rat rfl rfl rfl rfl fun w9 a st hF=>?_
 refine E.nil ?_
 refine wp_ret ?_
 refine S.ret Tryz.results96 st hF (hF.at 1 rfl) 0 rfl ty_Rat rfl hF.dfr ?_
 have bel:=st.bel
 exact⟨_,rfl,(st.f 0 rfl),bel⟩
theorem oSun_any (v1:Value) (qt:Rat) (k:Nat) (w:World) (hT:TabD w) (h1:Rq w v1 qt) (hl:RLim qt k) (hk:k≤100):
 Calls Tryz.prog 57 #[v1] w (RqPost w (sunV qt)):=by
 have st:=St.start w
 refine E.enter (nt:=6) (L:=[(0,v1)]) Tryz.func57 rfl rfl rfl (args_cons (i:=0) rfl args_nil) ?_
 intro a hF
 refine wp_seq ?_
 refine E.seq ?_
 obtain⟨b2,ad2,n2,c2,ae2,m2,d2,rfl⟩:=Rq.form h1
 refine S.box st hF (hF.at 0 rfl) rfl rfl fun g1 w1 a st hF=>?_
 refine S.alloc st hF ty_Rat rfl rfl fun g2 w3 a st hF=>?_
 refine E.nil ?_
 refine wp_seq ?_
 refine E.drawn 3 mixed hF [3,4,5] [(fun w v=>Orb w v pyr pay ssz sch),(fun _ v=>v= .agg #[.bool b2,.slice ad2 n2 c2,.slice ae2 m2 d2]),(fun w v=>Rq w v (sunV (qt)))] [] (by decide+kernel) (by decide+kernel) rfl rfl rfl ⟨(fun _ _ _ h hb=>h.below hb),(Mb.eq _),(fun _ _ _ h hb=>h.below hb),trivial⟩ trivial ⟨?_,?_,?_,trivial⟩ ?_
 ·intro a' w' hF' hb hd
  exact dc0 (r_call Tryz.func97 en97.1 en97.2 map0) (oSunOrbit_any _) rfl rfl
 ·intro a' w' hF' hb hd
  exact dv0 (r_load (hF'.at 1 rfl) (ld_all ty_Rat ((st.bk 1 rfl).below hb) rfl)) rfl rfl rfl
 ·intro a' w' hF' hb hd
  obtain⟨v3_0,e3,h3_1⟩:=sH hd 0 3 rfl rfl rfl rfl
  have e4:=sHe hd 1 4 rfl rfl rfl rfl
  exact dc0 (r_call Tryz.func96 en96.1 en96.2 (map2 e3 e4)) (oAt_any _ _ pyr pay ssz sch (qt) k _ (hT.below (below_to st.bel hb)) h3_1 (h1.below (below_to st.bel hb)) pyr_lim pay_lim ssz_lim sch_lim hl (by omega)) rfl rfl
 intro a w4 hF bb hall hne
 replace st:=st.to bb
 obtain⟨vv5,e5,hh6⟩:=sS hall 2 5 rfl rfl
 replace st:=st.add hh6 (Rq.cl _)
 clear hh6
 clear hall hne bb
 obtain⟨b7,ad7,n7,c7,ae7,m7,d7,rfl⟩:=Rq.form (st.f 0 rfl)
 replace hF:=hF.add e5
 clear e5
 refine S.sto st hF 0 rfl (hF.at 1 rfl) (hF.at 0 rfl) ty_Rat rfl rfl rfl rfl fun w8 a st hF=>?_
 refine E.nil ?_
 refine wp_ret ?_
 refine S.ret Tryz.results57 st hF (hF.at 1 rfl) 0 rfl ty_Rat rfl hF.dfr ?_
 have bel:=st.bel
 exact⟨_,rfl,(st.f 0 rfl),bel⟩
theorem oMoon_any (v1:Value) (qt:Rat) (k:Nat) (w:World) (hT:TabD w) (h1:Rq w v1 qt) (hl:RLim qt k) (hk:k≤100):
 Calls Tryz.prog 56 #[v1] w (RqPost w (moonV qt)):=by
 have st:=St.start w
 refine E.enter (nt:=6) (L:=[(0,v1)]) Tryz.func56 rfl rfl rfl (args_cons (i:=0) rfl args_nil) ?_
 intro a hF
 refine wp_seq ?_
 refine E.seq ?_
 obtain⟨b2,ad2,n2,c2,ae2,m2,d2,rfl⟩:=Rq.form h1
 refine S.box st hF (hF.at 0 rfl) rfl rfl fun g1 w1 a st hF=>?_
 refine S.alloc st hF ty_Rat rfl rfl fun g2 w3 a st hF=>?_
 refine E.nil ?_
 refine wp_seq ?_
 refine E.drawn 3 mixed hF [3,4,5] [(fun w v=>Orb w v pmo pam msz mch),(fun _ v=>v= .agg #[.bool b2,.slice ad2 n2 c2,.slice ae2 m2 d2]),(fun w v=>Rq w v (moonV (qt)))] [] (by decide+kernel) (by decide+kernel) rfl rfl rfl ⟨(fun _ _ _ h hb=>h.below hb),(Mb.eq _),(fun _ _ _ h hb=>h.below hb),trivial⟩ trivial ⟨?_,?_,?_,trivial⟩ ?_
 ·intro a' w' hF' hb hd
  exact dc0 (r_call Tryz.func95 en95.1 en95.2 map0) (oMoonOrbit_any _) rfl rfl
 ·intro a' w' hF' hb hd
  exact dv0 (r_load (hF'.at 1 rfl) (ld_all ty_Rat ((st.bk 1 rfl).below hb) rfl)) rfl rfl rfl
 ·intro a' w' hF' hb hd
  obtain⟨v3_0,e3,h3_1⟩:=sH hd 0 3 rfl rfl rfl rfl
  have e4:=sHe hd 1 4 rfl rfl rfl rfl
  exact dc0 (r_call Tryz.func96 en96.1 en96.2 (map2 e3 e4)) (oAt_any _ _ pmo pam msz mch (qt) k _ (hT.below (below_to st.bel hb)) h3_1 (h1.below (below_to st.bel hb)) pmo_lim pam_lim msz_lim mch_lim hl (by omega)) rfl rfl
 intro a w4 hF bb hall hne
 replace st:=st.to bb
 obtain⟨vv5,e5,hh6⟩:=sS hall 2 5 rfl rfl
 replace st:=st.add hh6 (Rq.cl _)
 clear hh6
 clear hall hne bb
 obtain⟨b7,ad7,n7,c7,ae7,m7,d7,rfl⟩:=Rq.form (st.f 0 rfl)
 replace hF:=hF.add e5
 clear e5
 refine S.sto st hF 0 rfl (hF.at 1 rfl) (hF.at 0 rfl) ty_Rat rfl rfl rfl rfl fun w8 a st hF=>?_
 refine E.nil ?_
 refine wp_ret ?_
 refine S.ret Tryz.results56 st hF (hF.at 1 rfl) 0 rfl ty_Rat rfl hF.dfr ?_
 have bel:=st.bel
 exact⟨_,rfl,(st.f 0 rfl),bel⟩
theorem oPhase_any (v1:Value) (qt:Rat) (k:Nat) (w:World) (hT:TabD w) (h1:Rq w v1 qt) (hl:RLim qt k) (hk:k≤100):
 Calls Tryz.prog 18 #[v1] w (RqPost w (phaseV qt)):=by
 have st:=St.start w
 refine E.enter (nt:=9) (L:=[(0,v1)]) Tryz.func18 rfl rfl rfl (args_cons (i:=0) rfl args_nil) ?_
 intro a hF
 refine wp_seq ?_
 refine E.seq ?_
 obtain⟨b2,ad2,n2,c2,ae2,m2,d2,rfl⟩:=Rq.form h1
 refine S.box st hF (hF.at 0 rfl) rfl rfl fun g1 w1 a st hF=>?_
 refine S.alloc st hF ty_Rat rfl rfl fun g2 w3 a st hF=>?_
 refine E.nil ?_
 refine wp_seq ?_
 refine E.drawn 6 mixed hF [3,4,5,6,7,8] [(fun _ v=>v= .agg #[.bool b2,.slice ad2 n2 c2,.slice ae2 m2 d2]),(fun w v=>Rq w v (moonV (qt))),(fun _ v=>v= .agg #[.bool b2,.slice ad2 n2 c2,.slice ae2 m2 d2]),(fun w v=>Rq w v (sunV (qt))),(fun w v=>Rq w v ((moonV (qt))-(sunV (qt)))),(fun w v=>Rq w v (rmod ((moonV (qt))-(sunV (qt))) ((360:Int):Rat)))] [] (by decide+kernel) (by decide+kernel) rfl rfl rfl ⟨(Mb.eq _),(fun _ _ _ h hb=>h.below hb),(Mb.eq _),(fun _ _ _ h hb=>h.below hb),(fun _ _ _ h hb=>h.below hb),(fun _ _ _ h hb=>h.below hb),trivial⟩ trivial ⟨?_,?_,?_,?_,?_,?_,trivial⟩ ?_
 ·intro a' w' hF' hb hd
  exact dv0 (r_load (hF'.at 1 rfl) (ld_all ty_Rat ((st.bk 1 rfl).below hb) rfl)) rfl rfl rfl
 ·intro a' w' hF' hb hd
  have e3:=sHe hd 0 3 rfl rfl rfl rfl
  exact dc0 (r_call Tryz.func56 en56.1 en56.2 (map1 e3)) (oMoon_any _ (qt) k _ (hT.below (below_to st.bel hb)) (h1.below (below_to st.bel hb)) hl (by omega)) rfl rfl
 ·intro a' w' hF' hb hd
  exact dv0 (r_load (hF'.at 1 rfl) (ld_all ty_Rat ((st.bk 1 rfl).below hb) rfl)) rfl rfl rfl
 ·intro a' w' hF' hb hd
  have e5:=sHe hd 0 5 rfl rfl rfl rfl
  exact dc0 (r_call Tryz.func57 en57.1 en57.2 (map1 e5)) (oSun_any _ (qt) k _ (hT.below (below_to st.bel hb)) (h1.below (below_to st.bel hb)) hl (by omega)) rfl rfl
 ·intro a' w' hF' hb hd
  obtain⟨v4_0,e4,h4_1⟩:=sH hd 0 4 rfl rfl rfl rfl
  obtain⟨v6_0,e6,h6_1⟩:=sH hd 1 6 rfl rfl rfl rfl
  exact dc0 (r_call Tryz.func37 en37.1 en37.2 (map2 e4 e6)) (rSub_any _ _ _ _ (3*k+100) _ h4_1 h6_1 ((moonV_lim hl).up _ (by omega)) ((sunV_lim hl).up _ (by omega)) (by omega)) rfl rfl
 ·intro a' w' hF' hb hd
  obtain⟨v7_0,e7,h7_1⟩:=sH hd 0 7 rfl rfl rfl rfl
  exact dc0 (r_call Tryz.func55 en55.1 en55.2 (map1 e7)) (oAround_any _ _ ((3*k+100)+(3*k+100)+1) _ h7_1 (rlim_sub (moonV_lim hl) (sunV_lim hl)) (by omega)) rfl rfl
 intro a w4 hF bb hall hne
 replace st:=st.to bb
 obtain⟨vv5,e8,hh6⟩:=sS hall 5 8 rfl rfl
 replace st:=st.add hh6 (Rq.cl _)
 clear hh6
 clear hall hne bb
 obtain⟨b7,ad7,n7,c7,ae7,m7,d7,rfl⟩:=Rq.form (st.f 0 rfl)
 replace hF:=hF.add e8
 clear e8
 refine S.sto st hF 0 rfl (hF.at 1 rfl) (hF.at 0 rfl) ty_Rat rfl rfl rfl rfl fun w8 a st hF=>?_
 refine E.nil ?_
 refine wp_ret ?_
 refine S.ret Tryz.results18 st hF (hF.at 1 rfl) 0 rfl ty_Rat rfl hF.dfr ?_
 have bel:=st.bel
 exact⟨_,rfl,(st.f 0 rfl),bel⟩
theorem oPart_any (v1:Value) (qt:Rat) (k:Nat) (n:Int) (w:World) (h1:Rq w v1 qt) (hl:RLim qt k) (hk:k≤1000) (hn:0<n) (hn2:n≤1000) (h0:0≤qt) (h3:qt<((360:Int):Rat)):
 Calls Tryz.prog 73 #[v1,.int .i64 n] w (ValPost w (.int .i64 (prt qt n))):=by
 have st:=St.start w
 refine E.enter (nt:=16) (L:=[(0,v1),(1,.int .i64 n)]) Tryz.func73 rfl rfl rfl (args_cons (i:=0) rfl (args_cons (i:=1) rfl args_nil)) ?_
 intro a hF
 refine wp_seq ?_
 refine E.seq ?_
 obtain⟨b2,ad2,n2,c2,ae2,m2,d2,rfl⟩:=Rq.form h1
 refine S.box st hF (hF.at 0 rfl) rfl rfl fun g2 w1 a st hF=>?_
 refine E.opv hF (r_assign ev_c) rfl rfl rfl rfl fun a hF=>?_
 refine E.nil ?_
 refine wp_seq ?_
 refine E.drawn 10 mixed hF [8,9,10,11,12,7,13,14,5,6] [(fun _ v=>v= .agg #[.bool b2,.slice ad2 n2 c2,.slice ae2 m2 d2]),(fun _ v=>v= .int .i64 n),(fun w v=>Rq w v (((n:Int):Rat)/((360:Int):Rat))),(fun w v=>Rq w v ((qt)*(((n:Int):Rat)/((360:Int):Rat)))),(fun _ v=>v= .tuple #[.int .i64 (sm64 (Rat.floor ((qt)*(((n:Int):Rat)/((360:Int):Rat))))),.bool (fit64 (Rat.floor ((qt)*(((n:Int):Rat)/((360:Int):Rat)))))]),(fun _ v=>v= .tuple #[.int .i64 (sm64 (Rat.floor ((qt)*(((n:Int):Rat)/((360:Int):Rat))))),.bool (fit64 (Rat.floor ((qt)*(((n:Int):Rat)/((360:Int):Rat)))))]),(fun _ v=>v= .int .i64 (sm64 (Rat.floor ((qt)*(((n:Int):Rat)/((360:Int):Rat)))))),(fun _ v=>v= .bool (fit64 (Rat.floor ((qt)*(((n:Int):Rat)/((360:Int):Rat)))))),(fun _ v=>v= .int .i64 (sm64 (Rat.floor ((qt)*(((n:Int):Rat)/((360:Int):Rat)))))),(fun _ v=>v= .bool (fit64 (Rat.floor ((qt)*(((n:Int):Rat)/((360:Int):Rat))))))] [] (by decide+kernel) (by decide+kernel) rfl rfl rfl ⟨(Mb.eq _),(Mb.eq _),(fun _ _ _ h hb=>h.below hb),(fun _ _ _ h hb=>h.below hb),(Mb.eq _),(Mb.eq _),(Mb.eq _),(Mb.eq _),(Mb.eq _),(Mb.eq _),trivial⟩ trivial ⟨?_,?_,?_,?_,?_,?_,?_,?_,?_,?_,trivial⟩ ?_
 ·intro a' w' hF' hb hd
  exact dv0 (r_load (hF'.at 1 rfl) (ld_all ty_Rat ((st.bk 0 rfl).below hb) rfl)) rfl rfl rfl
 ·intro a' w' hF' hb hd
  exact dv0 (r_move (hF'.at 3 rfl)) rfl rfl rfl
 ·intro a' w' hF' hb hd
  have e9:=sHe hd 0 9 rfl rfl rfl rfl
  exact dc0 (r_call Tryz.func22 en22.1 en22.2 (map2 e9 ev_c)) (rOf2_any (n) (360) _ (by omega) (by omega) (by decide) (by decide)) rfl rfl
 ·intro a' w' hF' hb hd
  have e8:=sHe hd 0 8 rfl rfl rfl rfl
  obtain⟨v10_0,e10,h10_1⟩:=sH hd 1 10 rfl rfl rfl rfl
  exact dc0 (r_call Tryz.func104 en104.1 en104.2 (map2 e8 e10)) (rMul_any _ _ (qt) _ (max k 2) _ (h1.below (below_to st.bel hb)) h10_1 (hl.up _ (by omega)) ((RLim.up (rlim_mk2 (limz_64 (by omega) (by omega)) (limz_64 (by decide) (by decide))) 2 (by decide)).up _ (by omega)) (by omega)) rfl rfl
 ·intro a' w' hF' hb hd
  obtain⟨v11_0,e11,h11_1⟩:=sH hd 0 11 rfl rfl rfl rfl
  exact dcx0 (r_call Tryz.func64 en64.1 en64.2 (map1 e11)) (cDays_any _ _ (k+2) _ h11_1 (rlim_mul hl (RLim.up (rlim_mk2 (limz_64 (by omega) (by omega)) (limz_64 (by decide) (by decide))) 2 (by decide))) (by omega)) (fun _=>rfl) rfl rfl
 ·intro a' w' hF' hb hd
  have e12:=sHe hd 0 12 rfl rfl rfl rfl
  exact dv0 (r_move e12) rfl rfl rfl
 ·intro a' w' hF' hb hd
  have e7:=sHe hd 0 7 rfl rfl rfl rfl
  exact dv0 (r_extract (v:= .int .i64 (sm64 (Rat.floor ((qt)*(((n:Int):Rat)/((360:Int):Rat)))))) e7 rfl) rfl rfl rfl
 ·intro a' w' hF' hb hd
  have e7:=sHe hd 0 7 rfl rfl rfl rfl
  exact dv0 (r_extract (v:= .bool (fit64 (Rat.floor ((qt)*(((n:Int):Rat)/((360:Int):Rat)))))) e7 rfl) rfl rfl rfl
 ·intro a' w' hF' hb hd
  have e13:=sHe hd 0 13 rfl rfl rfl rfl
  exact dv0 (r_assign e13) rfl rfl rfl
 ·intro a' w' hF' hb hd
  have e14:=sHe hd 0 14 rfl rfl rfl rfl
  exact dv0 (r_assign e14) rfl rfl rfl
 intro a w3 hF bb hall hne
 replace st:=st.to bb
 have e5:=sSe hall 8 5 rfl rfl
 clear hall hne bb
 replace hF:=hF.add e5
 clear e5
 refine E.nil ?_
 refine wp_seq ?_
 refine E.seq ?_
 refine E.opv hF (r_move (hF.at 0 rfl)) rfl rfl rfl rfl fun a hF=>?_
 refine E.opset (L':=[(4,.int .i64 (sm64 (Rat.floor ((qt)*(((n:Int):Rat)/((360:Int):Rat)))))),(15,.int .i64 (sm64 (Rat.floor ((qt)*(((n:Int):Rat)/((360:Int):Rat)))))),(5,.int .i64 (sm64 (Rat.floor ((qt)*(((n:Int):Rat)/((360:Int):Rat)))))),(2,.pointer (some ⟨g2,0,none⟩)),(0,.agg #[.bool b2,.slice ad2 n2 c2,.slice ae2 m2 d2]),(1,.int .i64 n)]) hF (r_assign (hF.at 0 rfl)) rfl rfl rfl rfl fun a hF=>?_
 refine E.nil ?_
 refine wp_ret ?_
 have bel:=st.bel
 refine bodyPost_ret (res_tmp Tryz.results73 (hF.at 0 rfl)) hF.dfr ?_
 exact⟨rv_int (prt_sm hn hn2 h0 h3),bel⟩
theorem oSign_any (v1:Value) (qt:Rat) (k:Nat) (w:World) (hT:TabD w) (h1:Rq w v1 qt) (hl:RLim qt k) (hk:k≤100):
 Calls Tryz.prog 30 #[v1] w (ValPost w (.int .i64 (prt (sunV qt) 12))):=by
 have st:=St.start w
 refine E.enter (nt:=6) (L:=[(0,v1)]) Tryz.func30 rfl rfl rfl (args_cons (i:=0) rfl args_nil) ?_
 intro a hF
 refine wp_seq ?_
 refine E.seq ?_
 obtain⟨b2,ad2,n2,c2,ae2,m2,d2,rfl⟩:=Rq.form h1
 refine S.box st hF (hF.at 0 rfl) rfl rfl fun g1 w1 a st hF=>?_
 refine E.opv hF (r_assign ev_c) rfl rfl rfl rfl fun a hF=>?_
 refine E.nil ?_
 refine wp_seq ?_
 refine E.seq ?_
 refine E.opv hF (r_load (hF.at 1 rfl) (ld_all ty_Rat (st.bk 0 rfl) rfl)) rfl rfl rfl rfl fun a hF=>?_
 refine S.call st hF (r_call Tryz.func57 en57.1 en57.2 (map1 (hF.at 0 rfl))) (oSun_any _ (qt) k _ (hT.below st.bel) (h1.below st.bel) hl (by omega)) (fun _ _ h=>h) Rq.cl rfl rfl rfl rfl fun vv4 w3 a st hF=>?_
 obtain⟨b6,ad6,n6,c6,ae6,m6,d6,rfl⟩:=Rq.form (st.f 0 rfl)
 refine S.callx st hF (r_call Tryz.func73 en73.1 en73.2 (map2 (hF.at 0 rfl) ev_c)) (oPart_any _ _ (3*k+100) 12 _ (st.f 0 rfl) (sunV_lim hl) (by omega) (by omega) (by omega) (sunV_low _) (sunV_high _)) rfl rfl rfl rfl fun w7 a st hF=>?_
 have hpt96163:=prt_bd (x:=sunV (qt)) (n:=12) (by omega) (sunV_low _) (sunV_high _)
 refine E.opset (L':=[(2,.int .i64 (prt (sunV (qt)) 12)),(5,.int .i64 (prt (sunV (qt)) 12)),(4,.agg #[.bool b6,.slice ad6 n6 c6,.slice ae6 m6 d6]),(3,.agg #[.bool b2,.slice ad2 n2 c2,.slice ae2 m2 d2]),(1,.pointer (some ⟨g1,0,none⟩)),(0,.agg #[.bool b2,.slice ad2 n2 c2,.slice ae2 m2 d2])]) hF (r_assign (hF.at 0 rfl)) rfl rfl rfl rfl fun a hF=>?_
 refine E.nil ?_
 refine wp_ret ?_
 have bel:=st.bel
 refine bodyPost_ret (res_tmp Tryz.results30 (hF.at 0 rfl)) hF.dfr ?_
 exact⟨rfl,bel⟩
theorem oTithi_any (v1:Value) (qt:Rat) (k:Nat) (w:World) (hT:TabD w) (h1:Rq w v1 qt) (hl:RLim qt k) (hk:k≤100):
 Calls Tryz.prog 42 #[v1] w (ValPost w (.int .i64 (prt (phaseV qt) 30+1))):=by
 have st:=St.start w
 refine E.enter (nt:=7) (L:=[(0,v1)]) Tryz.func42 rfl rfl rfl (args_cons (i:=0) rfl args_nil) ?_
 intro a hF
 refine wp_seq ?_
 refine E.seq ?_
 obtain⟨b2,ad2,n2,c2,ae2,m2,d2,rfl⟩:=Rq.form h1
 refine S.box st hF (hF.at 0 rfl) rfl rfl fun g1 w1 a st hF=>?_
 refine E.opv hF (r_assign ev_c) rfl rfl rfl rfl fun a hF=>?_
 refine E.nil ?_
 refine wp_seq ?_
 refine E.seq ?_
 refine E.opv hF (r_load (hF.at 1 rfl) (ld_all ty_Rat (st.bk 0 rfl) rfl)) rfl rfl rfl rfl fun a hF=>?_
 refine S.call st hF (r_call Tryz.func18 en18.1 en18.2 (map1 (hF.at 0 rfl))) (oPhase_any _ (qt) k _ (hT.below st.bel) (h1.below st.bel) hl (by omega)) (fun _ _ h=>h) Rq.cl rfl rfl rfl rfl fun vv4 w3 a st hF=>?_
 obtain⟨b6,ad6,n6,c6,ae6,m6,d6,rfl⟩:=Rq.form (st.f 0 rfl)
 refine S.callx st hF (r_call Tryz.func73 en73.1 en73.2 (map2 (hF.at 0 rfl) ev_c)) (oPart_any _ _ (6*k+210) 30 _ (st.f 0 rfl) (phaseV_lim hl) (by omega) (by omega) (by omega) (phaseV_low _) (phaseV_high _)) rfl rfl rfl rfl fun w7 a st hF=>?_
 have hpt16717:=prt_bd (x:=phaseV (qt)) (n:=30) (by omega) (phaseV_low _) (phaseV_high _)
 refine E.opv hF (r_bin (hF.at 0 rfl) ev_c eg_scalar (ia_add (by omega) (by omega))) rfl rfl rfl rfl fun a hF=>?_
 refine E.opset (L':=[(2,.int .i64 ((prt (phaseV (qt)) 30)+1)),(6,.int .i64 ((prt (phaseV (qt)) 30)+1)),(5,.int .i64 (prt (phaseV (qt)) 30)),(4,.agg #[.bool b6,.slice ad6 n6 c6,.slice ae6 m6 d6]),(3,.agg #[.bool b2,.slice ad2 n2 c2,.slice ae2 m2 d2]),(1,.pointer (some ⟨g1,0,none⟩)),(0,.agg #[.bool b2,.slice ad2 n2 c2,.slice ae2 m2 d2])]) hF (r_assign (hF.at 0 rfl)) rfl rfl rfl rfl fun a hF=>?_
 refine E.nil ?_
 refine wp_ret ?_
 have bel:=st.bel
 refine bodyPost_ret (res_tmp Tryz.results42 (hF.at 0 rfl)) hF.dfr ?_
 exact⟨rfl,bel⟩
theorem oElem_any (v1:Value) (qt:Rat) (k:Nat) (w:World) (hT:TabD w) (h1:Rq w v1 qt) (hl:RLim qt k) (hk:k≤100):
 Calls Tryz.prog 40 #[v1] w (ValPost w (.agg #[.int .i64 (prt (sunV qt) 12),.int .i64 (prt (phaseV qt) 30+1),.int .i64 (prt (moonV qt) 27+1),.int .i64 (prt (yogaV qt) 27+1),.int .i64 (prt (phaseV qt) 60+1)])):=by
 have st:=St.start w
 refine E.enter (nt:=32) (L:=[(0,v1)]) Tryz.func40 rfl rfl rfl (args_cons (i:=0) rfl args_nil) ?_
 intro a hF
 refine wp_seq ?_
 refine E.seq ?_
 obtain⟨b2,ad2,n2,c2,ae2,m2,d2,rfl⟩:=Rq.form h1
 refine S.box st hF (hF.at 0 rfl) rfl rfl fun g1 w1 a st hF=>?_
 refine S.alloc st hF ty_Elem rfl rfl fun g2 w3 a st hF=>?_
 refine E.nil ?_
 refine wp_seq ?_
 refine E.drawn 6 mixed hF [6,7,8,9,3,4] [(fun _ v=>v= .agg #[.bool b2,.slice ad2 n2 c2,.slice ae2 m2 d2]),(fun w v=>Rq w v (sunV (qt))),(fun _ v=>v= .agg #[.bool b2,.slice ad2 n2 c2,.slice ae2 m2 d2]),(fun w v=>Rq w v (moonV (qt))),(fun w v=>∃g,v= .pointer (some ⟨g,0,none⟩)∧w3.heap.size≤g∧Own w g [.bool false,.slice none 0 0,.slice none 0 0]),(fun w v=>∃g,v= .pointer (some ⟨g,0,none⟩)∧w3.heap.size≤g∧Own w g [.bool false,.slice none 0 0,.slice none 0 0])] [4,5] (by decide+kernel) (by decide+kernel) rfl rfl rfl ⟨(Mb.eq _),(fun _ _ _ h hb=>h.below hb),(Mb.eq _),(fun _ _ _ h hb=>h.below hb),(fun _ _ _ ⟨g,e,l,o⟩ hb=>⟨g,e,l,o.below hb⟩),(fun _ _ _ ⟨g,e,l,o⟩ hb=>⟨g,e,l,o.below hb⟩),trivial⟩ ⟨fun _ _ ⟨g,e,_,o⟩=>⟨g,e,o.lt⟩,⟨fun _ _ ⟨g,e,_,o⟩=>⟨g,e,o.lt⟩,trivial⟩⟩ ⟨?_,?_,?_,?_,?_,?_,trivial⟩ ?_
 ·intro a' w' hF' hb hd
  exact dv0 (r_load (hF'.at 1 rfl) (ld_all ty_Rat ((st.bk 1 rfl).below hb) rfl)) rfl rfl rfl
 ·intro a' w' hF' hb hd
  have e6:=sHe hd 0 6 rfl rfl rfl rfl
  exact dc0 (r_call Tryz.func57 en57.1 en57.2 (map1 e6)) (oSun_any _ (qt) k _ (hT.below (below_to st.bel hb)) (h1.below (below_to st.bel hb)) hl (by omega)) rfl rfl
 ·intro a' w' hF' hb hd
  exact dv0 (r_load (hF'.at 1 rfl) (ld_all ty_Rat ((st.bk 1 rfl).below hb) rfl)) rfl rfl rfl
 ·intro a' w' hF' hb hd
  have e8:=sHe hd 0 8 rfl rfl rfl rfl
  exact dc0 (r_call Tryz.func56 en56.1 en56.2 (map1 e8)) (oMoon_any _ (qt) k _ (hT.below (below_to st.bel hb)) (h1.below (below_to st.bel hb)) hl (by omega)) rfl rfl
 ·intro a' w' hF' hb hd
  exact da0 ty_Rat rfl hb.size rfl
 ·intro a' w' hF' hb hd
  exact da0 ty_Rat rfl hb.size rfl
 intro a w4 hF bb hall hne
 have s0:=st
 replace st:=st.to bb
 obtain⟨vv5,e7,hh6⟩:=sS hall 1 7 rfl rfl
 replace st:=st.add hh6 (Rq.cl _)
 clear hh6
 obtain⟨vv7,e9,hh8⟩:=sS hall 3 9 rfl rfl
 replace st:=st.add hh8 (Rq.cl _)
 clear hh8
 obtain⟨_,e3,g3,rfl,ge3,o3⟩:=sS hall 4 3 rfl rfl
 replace st:=st.push o3.blk (Nat.le_trans s0.bel.size ge3) (s0.ne ge3)
 clear o3
 obtain⟨_,e4,g4,rfl,ge4,o4⟩:=sS hall 5 4 rfl rfl
 replace st:=st.push o4.blk (Nat.le_trans s0.bel.size ge4) (ne_cons (fun(e:g3=g4)=>hne 4 5 3 4 rfl rfl (by decide) rfl rfl (by rw[e3,e4,e])) (s0.ne ge4))
 clear o4
 clear hall hne bb s0
 obtain⟨b9,ad9,n9,c9,ae9,m9,d9,rfl⟩:=Rq.form (st.f 1 rfl)
 replace hF:=hF.add e7
 clear e7
 obtain⟨b10,ad10,n10,c10,ae10,m10,d10,rfl⟩:=Rq.form (st.f 0 rfl)
 replace hF:=hF.add e9
 clear e9
 replace hF:=hF.add e3
 clear e3
 replace hF:=hF.add e4
 clear e4
 refine S.sto st hF 1 rfl (hF.at 1 rfl) (hF.at 3 rfl) ty_Rat rfl rfl rfl rfl fun w11 a st hF=>?_
 refine S.sto st hF 0 rfl (hF.at 0 rfl) (hF.at 2 rfl) ty_Rat rfl rfl rfl rfl fun w12 a st hF=>?_
 refine E.nil ?_
 refine wp_seq ?_
 refine E.seq ?_
 refine E.opv hF (r_load (hF.at 0 rfl) (ld_all ty_Rat (st.bk 0 rfl) rfl)) rfl rfl rfl rfl fun a hF=>?_
 refine E.opv hF (r_load (hF.at 2 rfl) (ld_all ty_Rat (st.bk 1 rfl) rfl)) rfl rfl rfl rfl fun a hF=>?_
 refine S.call st hF (r_call Tryz.func37 en37.1 en37.2 (map2 (hF.at 1 rfl) (hF.at 0 rfl))) (rSub_any _ _ _ _ (3*k+100) _ (st.f 0 rfl) (st.f 1 rfl) ((moonV_lim hl).up _ (by omega)) ((sunV_lim hl).up _ (by omega)) (by omega)) (fun _ _ h=>h) Rq.cl rfl rfl rfl rfl fun vv14 w13 a st hF=>?_
 obtain⟨b16,ad16,n16,c16,ae16,m16,d16,rfl⟩:=Rq.form (st.f 0 rfl)
 refine S.call st hF (r_call Tryz.func55 en55.1 en55.2 (map1 (hF.at 0 rfl))) (oAround_any _ _ ((3*k+100)+(3*k+100)+1) _ (st.f 0 rfl) (rlim_sub (moonV_lim hl) (sunV_lim hl)) (by omega)) (fun _ _ h=>h) Rq.cl rfl rfl rfl rfl fun vv18 w17 a st hF=>?_
 obtain⟨b20,ad20,n20,c20,ae20,m20,d20,rfl⟩:=Rq.form (st.f 0 rfl)
 refine S.new st hF 0 rfl ty_Rat rfl rfl rfl rfl rfl fun g5 w21 a st hF=>?_
 refine E.nil ?_
 refine wp_seq ?_
 refine E.drawn 18 mixed hF [14,15,16,17,18,19,20,21,22,23,24,25,26,27,28,29,30,31] [(fun _ v=>v= .agg #[.bool b9,.slice ad9 n9 c9,.slice ae9 m9 d9]),(fun _ v=>v= .int .i64 (prt (sunV (qt)) 12)),(fun _ v=>v= .agg #[.bool b20,.slice ad20 n20 c20,.slice ae20 m20 d20]),(fun _ v=>v= .int .i64 (prt (rmod ((moonV (qt))-(sunV (qt))) ((360:Int):Rat)) 30)),(fun _ v=>v= .int .i64 ((prt (rmod ((moonV (qt))-(sunV (qt))) ((360:Int):Rat)) 30)+1)),(fun _ v=>v= .agg #[.bool b10,.slice ad10 n10 c10,.slice ae10 m10 d10]),(fun _ v=>v= .int .i64 (prt (moonV (qt)) 27)),(fun _ v=>v= .int .i64 ((prt (moonV (qt)) 27)+1)),(fun _ v=>v= .agg #[.bool b10,.slice ad10 n10 c10,.slice ae10 m10 d10]),(fun _ v=>v= .agg #[.bool b9,.slice ad9 n9 c9,.slice ae9 m9 d9]),(fun w v=>Rq w v ((moonV (qt))+(sunV (qt)))),(fun w v=>Rq w v (rmod ((moonV (qt))+(sunV (qt))) ((360:Int):Rat))),(fun _ v=>v= .int .i64 (prt (rmod ((moonV (qt))+(sunV (qt))) ((360:Int):Rat)) 27)),(fun _ v=>v= .int .i64 ((prt (rmod ((moonV (qt))+(sunV (qt))) ((360:Int):Rat)) 27)+1)),(fun _ v=>v= .agg #[.bool b20,.slice ad20 n20 c20,.slice ae20 m20 d20]),(fun _ v=>v= .int .i64 (prt (rmod ((moonV (qt))-(sunV (qt))) ((360:Int):Rat)) 60)),(fun _ v=>v= .int .i64 ((prt (rmod ((moonV (qt))-(sunV (qt))) ((360:Int):Rat)) 60)+1)),(fun _ v=>v= .agg #[.int .i64 (prt (sunV (qt)) 12),.int .i64 ((prt (rmod ((moonV (qt))-(sunV (qt))) ((360:Int):Rat)) 30)+1),.int .i64 ((prt (moonV (qt)) 27)+1),.int .i64 ((prt (rmod ((moonV (qt))+(sunV (qt))) ((360:Int):Rat)) 27)+1),.int .i64 ((prt (rmod ((moonV (qt))-(sunV (qt))) ((360:Int):Rat)) 60)+1)])] [] (by decide+kernel) (by decide+kernel) rfl rfl rfl ⟨(Mb.eq _),(Mb.eq _),(Mb.eq _),(Mb.eq _),(Mb.eq _),(Mb.eq _),(Mb.eq _),(Mb.eq _),(Mb.eq _),(Mb.eq _),(fun _ _ _ h hb=>h.below hb),(fun _ _ _ h hb=>h.below hb),(Mb.eq _),(Mb.eq _),(Mb.eq _),(Mb.eq _),(Mb.eq _),(Mb.eq _),trivial⟩ trivial ⟨?_,?_,?_,?_,?_,?_,?_,?_,?_,?_,?_,?_,?_,?_,?_,?_,?_,?_,trivial⟩ ?_
 ·intro a' w' hF' hb hd
  exact dv0 (r_load (hF'.at 6 rfl) (ld_all ty_Rat ((st.bk 2 rfl).below hb) rfl)) rfl rfl rfl
 ·intro a' w' hF' hb hd
  have e14:=sHe hd 0 14 rfl rfl rfl rfl
  exact dcx0 (r_call Tryz.func73 en73.1 en73.2 (map2 e14 ev_c)) (oPart_any _ _ (3*k+100) 12 _ ((st.f 3 rfl).below hb) (sunV_lim hl) (by omega) (by omega) (by omega) (sunV_low _) (sunV_high _)) (fun _=>rfl) rfl rfl
 ·intro a' w' hF' hb hd
  exact dv0 (r_load (hF'.at 0 rfl) (ld_all ty_Rat ((st.bk 0 rfl).below hb) rfl)) rfl rfl rfl
 ·intro a' w' hF' hb hd
  have e16:=sHe hd 0 16 rfl rfl rfl rfl
  exact dcx0 (r_call Tryz.func73 en73.1 en73.2 (map2 e16 ev_c)) (oPart_any _ _ (((3*k+100)+(3*k+100)+1)+4) 30 _ ((st.f 0 rfl).below hb) (rmod360_lim (rlim_sub (moonV_lim hl) (sunV_lim hl))) (by omega) (by omega) (by omega) (rmod_low c360_pos) (rmod_high c360_pos)) (fun _=>rfl) rfl rfl
 ·intro a' w' hF' hb hd
  have e17:=sHe hd 0 17 rfl rfl rfl rfl
  have hpt3465:=prt_bd (x:=rmod ((moonV (qt))-(sunV (qt))) ((360:Int):Rat)) (n:=30) (by omega) (rmod_low c360_pos) (rmod_high c360_pos)
  exact dv0 (r_bin e17 ev_c eg_scalar (ia_add (by omega) (by omega))) rfl rfl rfl
 ·intro a' w' hF' hb hd
  exact dv0 (r_load (hF'.at 5 rfl) (ld_all ty_Rat ((st.bk 1 rfl).below hb) rfl)) rfl rfl rfl
 ·intro a' w' hF' hb hd
  have e19:=sHe hd 0 19 rfl rfl rfl rfl
  exact dcx0 (r_call Tryz.func73 en73.1 en73.2 (map2 e19 ev_c)) (oPart_any _ _ (3*k+100) 27 _ ((st.f 2 rfl).below hb) (moonV_lim hl) (by omega) (by omega) (by omega) (moonV_low _) (moonV_high _)) (fun _=>rfl) rfl rfl
 ·intro a' w' hF' hb hd
  have e20:=sHe hd 0 20 rfl rfl rfl rfl
  have hpt94321:=prt_bd (x:=moonV (qt)) (n:=27) (by omega) (moonV_low _) (moonV_high _)
  exact dv0 (r_bin e20 ev_c eg_scalar (ia_add (by omega) (by omega))) rfl rfl rfl
 ·intro a' w' hF' hb hd
  exact dv0 (r_load (hF'.at 5 rfl) (ld_all ty_Rat ((st.bk 1 rfl).below hb) rfl)) rfl rfl rfl
 ·intro a' w' hF' hb hd
  exact dv0 (r_load (hF'.at 6 rfl) (ld_all ty_Rat ((st.bk 2 rfl).below hb) rfl)) rfl rfl rfl
 ·intro a' w' hF' hb hd
  have e22:=sHe hd 0 22 rfl rfl rfl rfl
  have e23:=sHe hd 1 23 rfl rfl rfl rfl
  exact dc0 (r_call Tryz.func75 en75.1 en75.2 (map2 e22 e23)) (rAdd_any _ _ _ _ (3*k+100) _ ((st.f 2 rfl).below hb) ((st.f 3 rfl).below hb) ((moonV_lim hl).up _ (by omega)) ((sunV_lim hl).up _ (by omega)) (by omega)) rfl rfl
 ·intro a' w' hF' hb hd
  obtain⟨v24_0,e24,h24_1⟩:=sH hd 0 24 rfl rfl rfl rfl
  exact dc0 (r_call Tryz.func55 en55.1 en55.2 (map1 e24)) (oAround_any _ _ ((3*k+100)+(3*k+100)+1) _ h24_1 (rlim_add (moonV_lim hl) (sunV_lim hl)) (by omega)) rfl rfl
 ·intro a' w' hF' hb hd
  obtain⟨v25_0,e25,h25_1⟩:=sH hd 0 25 rfl rfl rfl rfl
  exact dcx0 (r_call Tryz.func73 en73.1 en73.2 (map2 e25 ev_c)) (oPart_any _ _ (((3*k+100)+(3*k+100)+1)+4) 27 _ h25_1 (rmod360_lim (rlim_add (moonV_lim hl) (sunV_lim hl))) (by omega) (by omega) (by omega) (rmod_low c360_pos) (rmod_high c360_pos)) (fun _=>rfl) rfl rfl
 ·intro a' w' hF' hb hd
  have e26:=sHe hd 0 26 rfl rfl rfl rfl
  have hpt92850:=prt_bd (x:=rmod ((moonV (qt))+(sunV (qt))) ((360:Int):Rat)) (n:=27) (by omega) (rmod_low c360_pos) (rmod_high c360_pos)
  exact dv0 (r_bin e26 ev_c eg_scalar (ia_add (by omega) (by omega))) rfl rfl rfl
 ·intro a' w' hF' hb hd
  exact dv0 (r_load (hF'.at 0 rfl) (ld_all ty_Rat ((st.bk 0 rfl).below hb) rfl)) rfl rfl rfl
 ·intro a' w' hF' hb hd
  have e28:=sHe hd 0 28 rfl rfl rfl rfl
  exact dcx0 (r_call Tryz.func73 en73.1 en73.2 (map2 e28 ev_c)) (oPart_any _ _ (((3*k+100)+(3*k+100)+1)+4) 60 _ ((st.f 0 rfl).below hb) (rmod360_lim (rlim_sub (moonV_lim hl) (sunV_lim hl))) (by omega) (by omega) (by omega) (rmod_low c360_pos) (rmod_high c360_pos)) (fun _=>rfl) rfl rfl
 ·intro a' w' hF' hb hd
  have e29:=sHe hd 0 29 rfl rfl rfl rfl
  have hpt50279:=prt_bd (x:=rmod ((moonV (qt))-(sunV (qt))) ((360:Int):Rat)) (n:=60) (by omega) (rmod_low c360_pos) (rmod_high c360_pos)
  exact dv0 (r_bin e29 ev_c eg_scalar (ia_add (by omega) (by omega))) rfl rfl rfl
 ·intro a' w' hF' hb hd
  have e15:=sHe hd 0 15 rfl rfl rfl rfl
  have hpt96163:=prt_bd (x:=sunV (qt)) (n:=12) (by omega) (sunV_low _) (sunV_high _)
  have e18:=sHe hd 1 18 rfl rfl rfl rfl
  have e21:=sHe hd 2 21 rfl rfl rfl rfl
  have e27:=sHe hd 3 27 rfl rfl rfl rfl
  have e30:=sHe hd 4 30 rfl rfl rfl rfl
  exact dv0 (r_build (pair5 e15 e18 e21 e27 e30) (bd_Elem_01234 _ _ _ _ _ _)) rfl rfl rfl
 intro a w22 hF bb hall hne
 replace st:=st.to bb
 have e31:=sSe hall 17 31 rfl rfl
 clear hall hne bb
 replace hF:=hF.add e31
 clear e31
 refine S.stoI st hF 3 rfl (hF.at 10 rfl) (hF.at 0 rfl) ty_Elem rfl rfl rfl fun w23 a st hF=>?_
 refine E.nil ?_
 refine wp_ret ?_
 refine S.ret Tryz.results40 st hF (hF.at 10 rfl) 3 rfl ty_Elem rfl hF.dfr ?_
 have bel:=st.bel
 exact⟨rfl,bel⟩
end Go.Proofs.YtplngpfpcheofaaGreatDoor
