import Derived.Test.YtpkhdajnppoinaaGreatDoorKB22
import Derived.Test.YtpkhdajnppoinaaGreatDoorKB33
namespace Go.Proofs.YtpkhdajnppoinaaGreatDoor
open Go.RowKit
set_option maxRecDepth 100000
set_option linter.unusedVariables false
set_option maxHeartbeats 8000000
theorem en107:(Tryz.f107.name == "runtime.NumGoroutine")=false∧Tryz.f107.body.isNone=false:=⟨by decide+kernel,by kernel_rfl⟩
theorem en110:(Tryz.f110.name == "runtime.NumGoroutine")=false∧Tryz.f110.body.isNone=false:=⟨by decide+kernel,by kernel_rfl⟩
theorem en45:(Tryz.f45.name == "runtime.NumGoroutine")=false∧Tryz.f45.body.isNone=false:=⟨by decide+kernel,by kernel_rfl⟩
theorem en155:(Tryz.f155.name == "runtime.NumGoroutine")=false∧Tryz.f155.body.isNone=false:=⟨by decide+kernel,by kernel_rfl⟩
theorem en108:(Tryz.f108.name == "runtime.NumGoroutine")=false∧Tryz.f108.body.isNone=false:=⟨by decide+kernel,by kernel_rfl⟩
theorem oSunOrbit_any (w:World):
 Calls Tryz.prog 107 #[] w (OrbPost w pyr pay ssz sch):=by
 have st:=St.start w
 refine E.enter (nt:=6) (L:=[]) Tryz.func107 rfl rfl rfl args_nil ?_
 intro a hF
 refine wp_seq ?_
 refine E.seq ?_
 refine S.alloc st hF ty_Orb rfl rfl fun g0 w1 a st hF=>?_
 refine E.nil ?_
 refine wp_seq ?_
 refine E.seq ?_
 refine S.call st hF (r_call Tryz.func136 en136.1 en136.2 map0) (mYear_any _) (fun _ _ h=>h) Rq.cl rfl rfl rfl rfl fun vv3 w2 a st hF=>?_
 obtain⟨b5,ad5,n5,c5,ae5,m5,d5,rfl⟩:=Rq.form (st.f 0 rfl)
 refine S.call st hF (r_call Tryz.func138 en138.1 en138.2 map0) (mAnomalyYear_any _) (fun _ _ h=>h) Rq.cl rfl rfl rfl rfl fun vv7 w6 a st hF=>?_
 obtain⟨b9,ad9,n9,c9,ae9,m9,d9,rfl⟩:=Rq.form (st.f 0 rfl)
 refine S.call st hF (r_call Tryz.func38 en38.1 en38.2 (map2 ev_c ev_c)) (rOf2_any (14) (360) _ (by decide) (by decide) (by decide) (by decide)) (fun _ _ h=>h) Rq.cl rfl rfl rfl rfl fun vv11 w10 a st hF=>?_
 obtain⟨b13,ad13,n13,c13,ae13,m13,d13,rfl⟩:=Rq.form (st.f 0 rfl)
 refine S.call st hF (r_call Tryz.func38 en38.1 en38.2 (map2 ev_c ev_c)) (rOf2_any (1) (42) _ (by decide) (by decide) (by decide) (by decide)) (fun _ _ h=>h) Rq.cl rfl rfl rfl rfl fun vv15 w14 a st hF=>?_
 obtain⟨b17,ad17,n17,c17,ae17,m17,d17,rfl⟩:=Rq.form (st.f 0 rfl)
 refine E.opv hF (r_build (pair4 (hF.at 3 rfl) (hF.at 2 rfl) (hF.at 1 rfl) (hF.at 0 rfl)) (bd_Orb_0123 _ _ _ _ _ _ _ _ _ _ _ _ _ _ _ _ _ _ _ _ _ _ _ _ _ _ _ _ _)) rfl rfl rfl rfl fun a hF=>?_
 refine S.sto st hF 0 rfl (hF.at 5 rfl) (hF.at 0 rfl) ty_Orb rfl rfl rfl rfl fun w18 a st hF=>?_
 refine E.nil ?_
 refine wp_ret ?_
 refine S.ret Tryz.results107 st hF (hF.at 5 rfl) 0 rfl ty_Orb rfl hF.dfr ?_
 have bel:=st.bel
 exact⟨_,rfl,⟨_,_,_,_,_,_,_,_,_,_,_,_,_,_,_,_,_,_,_,_,_,_,_,_,_,_,_,_,rfl,(st.f 3 rfl),(st.f 2 rfl),(st.f 1 rfl),(st.f 0 rfl)⟩,bel⟩
theorem oEq_any (v1 v2:Value) (qp qa qs qc qt:Rat) (k:Nat) (w:World) (hT:TabD w) (ho:Orb w v1 qp qa qs qc) (h2:Rq w v2 qt) (lqp:RLim qp 2) (lqa:RLim qa 2) (lqs:RLim qs 2) (lqc:RLim qc 2) (hl:RLim qt k) (hk:k≤100):
 Calls Tryz.prog 155 #[v1,v2] w (RqPost w (eqv qt qa qs qc)):=by
 obtain⟨qb1,qx1,qn1,qk1,qy1,qm1,qd1,qb2,qx2,qn2,qk2,qy2,qm2,qd2,qb3,qx3,qn3,qk3,qy3,qm3,qd3,qb4,qx4,qn4,qk4,qy4,qm4,qd4,rfl,hr1,hr2,hr3,hr4⟩:=ho
 have ho:Orb w (.agg #[.bool qb1,.slice qx1 qn1 qk1,.slice qy1 qm1 qd1,.bool qb2,.slice qx2 qn2 qk2,.slice qy2 qm2 qd2,.bool qb3,.slice qx3 qn3 qk3,.slice qy3 qm3 qd3,.bool qb4,.slice qx4 qn4 qk4,.slice qy4 qm4 qd4]) qp qa qs qc:=⟨_,_,_,_,_,_,_,_,_,_,_,_,_,_,_,_,_,_,_,_,_,_,_,_,_,_,_,_,rfl,hr1,hr2,hr3,hr4⟩
 have st:=St.start w
 refine E.enter (nt:=27) (L:=[(0,.agg #[.bool qb1,.slice qx1 qn1 qk1,.slice qy1 qm1 qd1,.bool qb2,.slice qx2 qn2 qk2,.slice qy2 qm2 qd2,.bool qb3,.slice qx3 qn3 qk3,.slice qy3 qm3 qd3,.bool qb4,.slice qx4 qn4 qk4,.slice qy4 qm4 qd4]),(1,v2)]) Tryz.func155 rfl rfl rfl (args_cons (i:=0) rfl (args_cons (i:=1) rfl args_nil)) ?_
 intro a hF
 refine wp_seq ?_
 refine E.seq ?_
 refine S.box st hF (hF.at 0 rfl) rfl rfl fun g2 w1 a st hF=>?_
 obtain⟨b3,ad3,n3,c3,ae3,m3,d3,rfl⟩:=Rq.form h2
 refine S.box st hF (hF.at 2 rfl) rfl rfl fun g3 w2 a st hF=>?_
 refine S.alloc st hF ty_Rat rfl rfl fun g4 w4 a st hF=>?_
 refine E.nil ?_
 refine wp_seq ?_
 refine E.seq ?_
 refine E.opv hF (r_load (hF.at 1 rfl) (ld_all ty_Rat (st.bk 1 rfl) rfl)) rfl rfl rfl rfl fun a hF=>?_
 refine E.opv hF (r_field (hF.at 3 rfl) (fa_Orb_1 (p:=3) rfl)) rfl rfl rfl rfl fun a hF=>?_
 refine E.opv hF (r_load (hF.at 0 rfl) (ld_Rat (vs:=[.bool qb2,.slice qx2 qn2 qk2,.slice qy2 qm2 qd2]) (st.b 2 rfl rfl) rfl rfl)) rfl rfl rfl rfl fun a hF=>?_
 refine S.call st hF (r_call Tryz.func137 en137.1 en137.2 (map2 (hF.at 2 rfl) (hF.at 0 rfl))) (mOf_any _ _ (qt) (qa) k 2 _ (h2.below st.bel) (hr2.below st.bel) hl lqa (by omega) (by omega)) (fun _ _ h=>h) Rq.cl rfl rfl rfl rfl fun vv6 w5 a st hF=>?_
 obtain⟨b8,ad8,n8,c8,ae8,m8,d8,rfl⟩:=Rq.form (st.f 0 rfl)
 refine S.call st hF (r_call Tryz.func135 en135.1 en135.2 (map1 (hF.at 0 rfl))) (sof_any _ _ (k+2+5) _ (hT.below st.bel) (st.f 0 rfl) (mof_lim hl lqa) (by omega)) (fun _ _ h=>h) Rq.cl rfl rfl rfl rfl fun vv10 w9 a st hF=>?_
 obtain⟨b12,ad12,n12,c12,ae12,m12,d12,rfl⟩:=Rq.form (st.f 0 rfl)
 refine S.new st hF 0 rfl ty_Rat rfl rfl rfl rfl rfl fun g5 w13 a st hF=>?_
 refine E.nil ?_
 refine wp_seq ?_
 refine E.drawn 9 mixed hF [12,13,14,15,16,17,18,19,6] [(fun _ v=>v= .agg #[.bool b12,.slice ad12 n12 c12,.slice ae12 m12 d12]),(fun w v=>Rq w v (Rat.abs (sof (mof (qt) (qa))))),(fun _ v=>v= .pointer (some ⟨g2,9,none⟩)),(fun _ v=>v= .agg #[.bool qb4,.slice qx4 qn4 qk4,.slice qy4 qm4 qd4]),(fun w v=>Rq w v ((Rat.abs (sof (mof (qt) (qa))))*(qc))),(fun _ v=>v= .pointer (some ⟨g2,6,none⟩)),(fun _ v=>v= .agg #[.bool qb3,.slice qx3 qn3 qk3,.slice qy3 qm3 qd3]),(fun w v=>Rq w v (((Rat.abs (sof (mof (qt) (qa))))*(qc))*(qs))),(fun w v=>∃g,v= .pointer (some ⟨g,0,none⟩)∧w13.heap.size≤g∧Own w g [.bool false,.slice none 0 0,.slice none 0 0])] [8] (by decide+kernel) (by decide+kernel) rfl rfl rfl ⟨(Mb.eq _),(fun _ _ _ h hb=>h.below hb),(Mb.eq _),(Mb.eq _),(fun _ _ _ h hb=>h.below hb),(Mb.eq _),(Mb.eq _),(fun _ _ _ h hb=>h.below hb),(fun _ _ _ ⟨g,e,l,o⟩ hb=>⟨g,e,l,o.below hb⟩),trivial⟩ ⟨fun _ _ ⟨g,e,_,o⟩=>⟨g,e,o.lt⟩,trivial⟩ ⟨?_,?_,?_,?_,?_,?_,?_,?_,?_,trivial⟩ ?_
 ·intro a' w' hF' hb hd
  exact dv0 (r_load (hF'.at 0 rfl) (ld_all ty_Rat ((st.bk 0 rfl).below hb) rfl)) rfl rfl rfl
 ·intro a' w' hF' hb hd
  have e12:=sHe hd 0 12 rfl rfl rfl rfl
  exact dc0 (r_call Tryz.func53 en53.1 en53.2 (map1 e12)) (rAbs_any _ _ _ ((st.f 0 rfl).below hb)) rfl rfl
 ·intro a' w' hF' hb hd
  exact dv0 (r_field (hF'.at 8 rfl) (fa_Orb_3 (p:=9) rfl)) rfl rfl rfl
 ·intro a' w' hF' hb hd
  have e14:=sHe hd 0 14 rfl rfl rfl rfl
  exact dv0 (r_load e14 (ld_Rat (vs:=[.bool qb4,.slice qx4 qn4 qk4,.slice qy4 qm4 qd4]) ((st.b 3 rfl rfl).below hb) rfl rfl)) rfl rfl rfl
 ·intro a' w' hF' hb hd
  obtain⟨v13_0,e13,h13_1⟩:=sH hd 0 13 rfl rfl rfl rfl
  have e15:=sHe hd 1 15 rfl rfl rfl rfl
  exact dc0 (r_call Tryz.func52 en52.1 en52.2 (map2 e13 e15)) (rMul_any _ _ _ (qc) (max ((k+2+5)+12) 2) _ h13_1 (hr4.below (below_to st.bel hb)) ((rlim_abs (sof_lim2 (mof_lim hl lqa))).up _ (by omega)) (lqc.up _ (by omega)) (by omega)) rfl rfl
 ·intro a' w' hF' hb hd
  exact dv0 (r_field (hF'.at 8 rfl) (fa_Orb_2 (p:=6) rfl)) rfl rfl rfl
 ·intro a' w' hF' hb hd
  have e17:=sHe hd 0 17 rfl rfl rfl rfl
  exact dv0 (r_load e17 (ld_Rat (vs:=[.bool qb3,.slice qx3 qn3 qk3,.slice qy3 qm3 qd3]) ((st.b 3 rfl rfl).below hb) rfl rfl)) rfl rfl rfl
 ·intro a' w' hF' hb hd
  obtain⟨v16_0,e16,h16_1⟩:=sH hd 0 16 rfl rfl rfl rfl
  have e18:=sHe hd 1 18 rfl rfl rfl rfl
  exact dc0 (r_call Tryz.func52 en52.1 en52.2 (map2 e16 e18)) (rMul_any _ _ _ (qs) (max (((k+2+5)+12)+2) 2) _ h16_1 (hr3.below (below_to st.bel hb)) ((rlim_mul (rlim_abs (sof_lim2 (mof_lim hl lqa))) lqc).up _ (by omega)) (lqs.up _ (by omega)) (by omega)) rfl rfl
 ·intro a' w' hF' hb hd
  exact da0 ty_Rat rfl hb.size rfl
 intro a w14 hF bb hall hne
 have s0:=st
 replace st:=st.to bb
 obtain⟨vv15,e19,hh16⟩:=sS hall 7 19 rfl rfl
 replace st:=st.add hh16 (Rq.cl _)
 clear hh16
 obtain⟨_,e6,g6,rfl,ge6,o6⟩:=sS hall 8 6 rfl rfl
 replace st:=st.push o6.blk (Nat.le_trans s0.bel.size ge6) (s0.ne ge6)
 clear o6
 clear hall hne bb s0
 obtain⟨b17,ad17,n17,c17,ae17,m17,d17,rfl⟩:=Rq.form (st.f 0 rfl)
 replace hF:=hF.add e19
 clear e19
 replace hF:=hF.add e6
 clear e6
 refine S.sto st hF 0 rfl (hF.at 0 rfl) (hF.at 1 rfl) ty_Rat rfl rfl rfl rfl fun w18 a st hF=>?_
 refine E.nil ?_
 refine wp_seq ?_
 refine E.drawn 7 mixed hF [20,21,22,23,24,25,26] [(fun _ v=>v= .agg #[.bool b12,.slice ad12 n12 c12,.slice ae12 m12 d12]),(fun _ v=>v= .pointer (some ⟨g2,6,none⟩)),(fun _ v=>v= .agg #[.bool qb3,.slice qx3 qn3 qk3,.slice qy3 qm3 qd3]),(fun _ v=>v= .agg #[.bool b17,.slice ad17 n17 c17,.slice ae17 m17 d17]),(fun w v=>Rq w v ((qs)-(((Rat.abs (sof (mof (qt) (qa))))*(qc))*(qs)))),(fun w v=>Rq w v ((sof (mof (qt) (qa)))*((qs)-(((Rat.abs (sof (mof (qt) (qa))))*(qc))*(qs))))),(fun w v=>Rq w v (arcv ((sof (mof (qt) (qa)))*((qs)-(((Rat.abs (sof (mof (qt) (qa))))*(qc))*(qs))))))] [] (by decide+kernel) (by decide+kernel) rfl rfl rfl ⟨(Mb.eq _),(Mb.eq _),(Mb.eq _),(Mb.eq _),(fun _ _ _ h hb=>h.below hb),(fun _ _ _ h hb=>h.below hb),(fun _ _ _ h hb=>h.below hb),trivial⟩ trivial ⟨?_,?_,?_,?_,?_,?_,?_,trivial⟩ ?_
 ·intro a' w' hF' hb hd
  exact dv0 (r_load (hF'.at 2 rfl) (ld_all ty_Rat ((st.bk 1 rfl).below hb) rfl)) rfl rfl rfl
 ·intro a' w' hF' hb hd
  exact dv0 (r_field (hF'.at 10 rfl) (fa_Orb_2 (p:=6) rfl)) rfl rfl rfl
 ·intro a' w' hF' hb hd
  have e21:=sHe hd 0 21 rfl rfl rfl rfl
  exact dv0 (r_load e21 (ld_Rat (vs:=[.bool qb3,.slice qx3 qn3 qk3,.slice qy3 qm3 qd3]) ((st.b 4 rfl rfl).below hb) rfl rfl)) rfl rfl rfl
 ·intro a' w' hF' hb hd
  exact dv0 (r_load (hF'.at 0 rfl) (ld_all ty_Rat ((st.bk 0 rfl).below hb) rfl)) rfl rfl rfl
 ·intro a' w' hF' hb hd
  have e22:=sHe hd 0 22 rfl rfl rfl rfl
  have e23:=sHe hd 1 23 rfl rfl rfl rfl
  exact dc0 (r_call Tryz.func36 en36.1 en36.2 (map2 e22 e23)) (rSub_any _ _ (qs) _ (max 2 ((((k+2+5)+12)+2)+2)) _ (hr3.below (below_to st.bel hb)) ((st.f 0 rfl).below hb) (lqs.up _ (by omega)) ((rlim_mul (rlim_mul (rlim_abs (sof_lim2 (mof_lim hl lqa))) lqc) lqs).up _ (by omega)) (by omega)) rfl rfl
 ·intro a' w' hF' hb hd
  have e20:=sHe hd 0 20 rfl rfl rfl rfl
  obtain⟨v24_0,e24,h24_1⟩:=sH hd 1 24 rfl rfl rfl rfl
  exact dc0 (r_call Tryz.func52 en52.1 en52.2 (map2 e20 e24)) (rMul_any _ _ _ ((qs)-(((Rat.abs _)*(qc))*(qs))) (max ((k+2+5)+12) (2+((((k+2+5)+12)+2)+2)+1)) _ ((st.f 1 rfl).below hb) h24_1 ((sof_lim2 (mof_lim hl lqa)).up _ (by omega)) ((rlim_sub lqs (rlim_mul (rlim_mul (rlim_abs (sof_lim2 (mof_lim hl lqa))) lqc) lqs)).up _ (by omega)) (by omega)) rfl rfl
 ·intro a' w' hF' hb hd
  obtain⟨v25_0,e25,h25_1⟩:=sH hd 0 25 rfl rfl rfl rfl
  exact dc0 (r_call Tryz.func146 en146.1 en146.2 (map1 e25)) (sarc_any _ _ (((k+2+5)+12)+(2+((((k+2+5)+12)+2)+2)+1)) _ (hT.below (below_to st.bel hb)) h25_1 (rlim_mul (sof_lim2 (mof_lim hl lqa)) (rlim_sub lqs (rlim_mul (rlim_mul (rlim_abs (sof_lim2 (mof_lim hl lqa))) lqc) lqs))) (by omega)) rfl rfl
 intro a w19 hF bb hall hne
 replace st:=st.to bb
 obtain⟨vv20,e26,hh21⟩:=sS hall 6 26 rfl rfl
 replace st:=st.add hh21 (Rq.cl _)
 clear hh21
 clear hall hne bb
 obtain⟨b22,ad22,n22,c22,ae22,m22,d22,rfl⟩:=Rq.form (st.f 0 rfl)
 replace hF:=hF.add e26
 clear e26
 refine S.sto st hF 2 rfl (hF.at 9 rfl) (hF.at 0 rfl) ty_Rat rfl rfl rfl rfl fun w23 a st hF=>?_
 refine E.nil ?_
 refine wp_ret ?_
 refine S.ret Tryz.results155 st hF (hF.at 9 rfl) 2 rfl ty_Rat rfl hF.dfr ?_
 have bel:=st.bel
 exact⟨_,rfl,(st.f 0 rfl),bel⟩
theorem oAround_any (v1:Value) (qt:Rat) (k:Nat) (w:World) (h1:Rq w v1 qt) (hl:RLim qt k) (hk:k≤1000):
 Calls Tryz.prog 110 #[v1] w (RqPost w (rmod qt ((360:Int):Rat))):=by
 have st:=St.start w
 refine E.enter (nt:=6) (L:=[(0,v1)]) Tryz.func110 rfl rfl rfl (args_cons (i:=0) rfl args_nil) ?_
 intro a hF
 refine wp_seq ?_
 refine E.seq ?_
 obtain⟨b2,ad2,n2,c2,ae2,m2,d2,rfl⟩:=Rq.form h1
 refine S.box st hF (hF.at 0 rfl) rfl rfl fun g1 w1 a st hF=>?_
 refine S.alloc st hF ty_Rat rfl rfl fun g2 w3 a st hF=>?_
 refine E.nil ?_
 refine wp_seq ?_
 refine E.drawn 3 mixed hF [3,4,5] [(fun _ v=>v= .agg #[.bool b2,.slice ad2 n2 c2,.slice ae2 m2 d2]),(fun w v=>Rq w v (((360:Int):Rat))),(fun w v=>Rq w v (rmod (qt) (((360:Int):Rat))))] [] (by decide+kernel) (by decide+kernel) rfl rfl rfl ⟨(Mb.eq _),(fun _ _ _ h hb=>h.below hb),(fun _ _ _ h hb=>h.below hb),trivial⟩ trivial ⟨?_,?_,?_,trivial⟩ ?_
 ·intro a' w' hF' hb hd
  exact dv0 (r_load (hF'.at 1 rfl) (ld_all ty_Rat ((st.bk 1 rfl).below hb) rfl)) rfl rfl rfl
 ·intro a' w' hF' hb hd
  exact dc0 (r_call Tryz.func41 en41.1 en41.2 (map1 ev_c)) (rWhole_any (360) _ (by decide) (by decide)) rfl rfl
 ·intro a' w' hF' hb hd
  have e3:=sHe hd 0 3 rfl rfl rfl rfl
  obtain⟨v4_0,e4,h4_1⟩:=sH hd 1 4 rfl rfl rfl rfl
  exact dc0 (r_call Tryz.func75 en75.1 en75.2 (map2 e3 e4)) (cMod_any _ _ (qt) _ k 2 _ (h1.below (below_to st.bel hb)) h4_1 hl (rlim_int (limz_64 (by decide) (by decide)) (by omega)) (by omega) (by omega)) rfl rfl
 intro a w4 hF bb hall hne
 replace st:=st.to bb
 obtain⟨vv5,e5,hh6⟩:=sS hall 2 5 rfl rfl
 replace st:=st.add hh6 (Rq.cl _)
 clear hh6
 clear hall hne bb
 obtain⟨b7,ad7,n7,c7,ae7,m7,d7,rfl⟩:=Rq.form (st.f 0 rfl)
 replace hF:=hF.add e5
 clear e5
 refine S.sto st hF 0 rfl (hF.at 1 rfl) (hF.at 0 rfl) ty_Rat rfl rfl rfl rfl fun w8 a st hF=>?_
 refine E.nil ?_
 refine wp_ret ?_
 refine S.ret Tryz.results110 st hF (hF.at 1 rfl) 0 rfl ty_Rat rfl hF.dfr ?_
 have bel:=st.bel
 exact⟨_,rfl,(st.f 0 rfl),bel⟩
theorem oAt_any (v1 v2:Value) (qp qa qs qc qt:Rat) (k:Nat) (w:World) (hT:TabD w) (ho:Orb w v1 qp qa qs qc) (h2:Rq w v2 qt) (lqp:RLim qp 2) (lqa:RLim qa 2) (lqs:RLim qs 2) (lqc:RLim qc 2) (hl:RLim qt k) (hk:k≤100):
 Calls Tryz.prog 108 #[v1,v2] w (RqPost w (atv qt qp qa qs qc)):=by
 obtain⟨qb1,qx1,qn1,qk1,qy1,qm1,qd1,qb2,qx2,qn2,qk2,qy2,qm2,qd2,qb3,qx3,qn3,qk3,qy3,qm3,qd3,qb4,qx4,qn4,qk4,qy4,qm4,qd4,rfl,hr1,hr2,hr3,hr4⟩:=ho
 have ho:Orb w (.agg #[.bool qb1,.slice qx1 qn1 qk1,.slice qy1 qm1 qd1,.bool qb2,.slice qx2 qn2 qk2,.slice qy2 qm2 qd2,.bool qb3,.slice qx3 qn3 qk3,.slice qy3 qm3 qd3,.bool qb4,.slice qx4 qn4 qk4,.slice qy4 qm4 qd4]) qp qa qs qc:=⟨_,_,_,_,_,_,_,_,_,_,_,_,_,_,_,_,_,_,_,_,_,_,_,_,_,_,_,_,rfl,hr1,hr2,hr3,hr4⟩
 have st:=St.start w
 refine E.enter (nt:=14) (L:=[(0,.agg #[.bool qb1,.slice qx1 qn1 qk1,.slice qy1 qm1 qd1,.bool qb2,.slice qx2 qn2 qk2,.slice qy2 qm2 qd2,.bool qb3,.slice qx3 qn3 qk3,.slice qy3 qm3 qd3,.bool qb4,.slice qx4 qn4 qk4,.slice qy4 qm4 qd4]),(1,v2)]) Tryz.func108 rfl rfl rfl (args_cons (i:=0) rfl (args_cons (i:=1) rfl args_nil)) ?_
 intro a hF
 refine wp_seq ?_
 refine E.seq ?_
 refine S.box st hF (hF.at 0 rfl) rfl rfl fun g2 w1 a st hF=>?_
 obtain⟨b3,ad3,n3,c3,ae3,m3,d3,rfl⟩:=Rq.form h2
 refine S.box st hF (hF.at 2 rfl) rfl rfl fun g3 w2 a st hF=>?_
 refine S.alloc st hF ty_Rat rfl rfl fun g4 w4 a st hF=>?_
 refine E.nil ?_
 refine wp_seq ?_
 refine E.drawn 9 mixed hF [5,6,7,8,9,10,11,12,13] [(fun _ v=>v= .agg #[.bool b3,.slice ad3 n3 c3,.slice ae3 m3 d3]),(fun _ v=>v= .pointer (some ⟨g2,0,none⟩)),(fun _ v=>v= .agg #[.bool qb1,.slice qx1 qn1 qk1,.slice qy1 qm1 qd1]),(fun w v=>Rq w v (mof (qt) (qp))),(fun _ v=>v= .agg #[.bool qb1,.slice qx1 qn1 qk1,.slice qy1 qm1 qd1,.bool qb2,.slice qx2 qn2 qk2,.slice qy2 qm2 qd2,.bool qb3,.slice qx3 qn3 qk3,.slice qy3 qm3 qd3,.bool qb4,.slice qx4 qn4 qk4,.slice qy4 qm4 qd4]),(fun _ v=>v= .agg #[.bool b3,.slice ad3 n3 c3,.slice ae3 m3 d3]),(fun w v=>Rq w v (eqv (qt) qa qs qc)),(fun w v=>Rq w v ((mof (qt) (qp))-(eqv (qt) qa qs qc))),(fun w v=>Rq w v (rmod ((mof (qt) (qp))-(eqv (qt) qa qs qc)) ((360:Int):Rat)))] [] (by decide+kernel) (by decide+kernel) rfl rfl rfl ⟨(Mb.eq _),(Mb.eq _),(Mb.eq _),(fun _ _ _ h hb=>h.below hb),(Mb.eq _),(Mb.eq _),(fun _ _ _ h hb=>h.below hb),(fun _ _ _ h hb=>h.below hb),(fun _ _ _ h hb=>h.below hb),trivial⟩ trivial ⟨?_,?_,?_,?_,?_,?_,?_,?_,?_,trivial⟩ ?_
 ·intro a' w' hF' hb hd
  exact dv0 (r_load (hF'.at 1 rfl) (ld_all ty_Rat ((st.bk 1 rfl).below hb) rfl)) rfl rfl rfl
 ·intro a' w' hF' hb hd
  exact dv0 (r_field (hF'.at 2 rfl) (fa_Orb_0 (p:=0) rfl)) rfl rfl rfl
 ·intro a' w' hF' hb hd
  have e6:=sHe hd 0 6 rfl rfl rfl rfl
  exact dv0 (r_load e6 (ld_Rat (vs:=[.bool qb1,.slice qx1 qn1 qk1,.slice qy1 qm1 qd1]) ((st.b 2 rfl rfl).below hb) rfl rfl)) rfl rfl rfl
 ·intro a' w' hF' hb hd
  have e5:=sHe hd 0 5 rfl rfl rfl rfl
  have e7:=sHe hd 1 7 rfl rfl rfl rfl
  exact dc0 (r_call Tryz.func137 en137.1 en137.2 (map2 e5 e7)) (mOf_any _ _ (qt) (qp) k 2 _ (h2.below (below_to st.bel hb)) (hr1.below (below_to st.bel hb)) hl lqp (by omega) (by omega)) rfl rfl
 ·intro a' w' hF' hb hd
  exact dv0 (r_load (hF'.at 2 rfl) (ld_all ty_Orb ((st.bk 2 rfl).below hb) rfl)) rfl rfl rfl
 ·intro a' w' hF' hb hd
  exact dv0 (r_load (hF'.at 1 rfl) (ld_all ty_Rat ((st.bk 1 rfl).below hb) rfl)) rfl rfl rfl
 ·intro a' w' hF' hb hd
  have e9:=sHe hd 0 9 rfl rfl rfl rfl
  have e10:=sHe hd 1 10 rfl rfl rfl rfl
  exact dc0 (r_call Tryz.func155 en155.1 en155.2 (map2 e9 e10)) (oEq_any _ _ qp qa qs qc (qt) k _ (hT.below (below_to st.bel hb)) (ho.below (below_to st.bel hb)) (h2.below (below_to st.bel hb)) lqp lqa lqs lqc hl (by omega)) rfl rfl
 ·intro a' w' hF' hb hd
  obtain⟨v8_0,e8,h8_1⟩:=sH hd 0 8 rfl rfl rfl rfl
  obtain⟨v11_0,e11,h11_1⟩:=sH hd 1 11 rfl rfl rfl rfl
  exact dc0 (r_call Tryz.func36 en36.1 en36.2 (map2 e8 e11)) (rSub_any _ _ _ _ (max (k+2+5) (2*k+2*2+2*2+2+60)) _ h8_1 h11_1 ((mof_lim hl lqp).up _ (by omega)) ((eqv_lim hl lqa lqs lqc).up _ (by omega)) (by omega)) rfl rfl
 ·intro a' w' hF' hb hd
  obtain⟨v12_0,e12,h12_1⟩:=sH hd 0 12 rfl rfl rfl rfl
  exact dc0 (r_call Tryz.func110 en110.1 en110.2 (map1 e12)) (oAround_any _ _ ((k+2+5)+(2*k+2*2+2*2+2+60)+1) _ h12_1 (rlim_sub (mof_lim hl lqp) (eqv_lim hl lqa lqs lqc)) (by omega)) rfl rfl
 intro a w5 hF bb hall hne
 replace st:=st.to bb
 obtain⟨vv6,e13,hh7⟩:=sS hall 8 13 rfl rfl
 replace st:=st.add hh7 (Rq.cl _)
 clear hh7
 clear hall hne bb
 obtain⟨b8,ad8,n8,c8,ae8,m8,d8,rfl⟩:=Rq.form (st.f 0 rfl)
 replace hF:=hF.add e13
 clear e13
 refine S.sto st hF 0 rfl (hF.at 1 rfl) (hF.at 0 rfl) ty_Rat rfl rfl rfl rfl fun w9 a st hF=>?_
 refine E.nil ?_
 refine wp_ret ?_
 refine S.ret Tryz.results108 st hF (hF.at 1 rfl) 0 rfl ty_Rat rfl hF.dfr ?_
 have bel:=st.bel
 exact⟨_,rfl,(st.f 0 rfl),bel⟩
theorem oSun_any (v1:Value) (qt:Rat) (k:Nat) (w:World) (hT:TabD w) (h1:Rq w v1 qt) (hl:RLim qt k) (hk:k≤100):
 Calls Tryz.prog 45 #[v1] w (RqPost w (sunV qt)):=by
 have st:=St.start w
 refine E.enter (nt:=6) (L:=[(0,v1)]) Tryz.func45 rfl rfl rfl (args_cons (i:=0) rfl args_nil) ?_
 intro a hF
 refine wp_seq ?_
 refine E.seq ?_
 obtain⟨b2,ad2,n2,c2,ae2,m2,d2,rfl⟩:=Rq.form h1
 refine S.box st hF (hF.at 0 rfl) rfl rfl fun g1 w1 a st hF=>?_
 refine S.alloc st hF ty_Rat rfl rfl fun g2 w3 a st hF=>?_
 refine E.nil ?_
 refine wp_seq ?_
 refine E.drawn 3 mixed hF [3,4,5] [(fun w v=>Orb w v pyr pay ssz sch),(fun _ v=>v= .agg #[.bool b2,.slice ad2 n2 c2,.slice ae2 m2 d2]),(fun w v=>Rq w v (sunV (qt)))] [] (by decide+kernel) (by decide+kernel) rfl rfl rfl ⟨(fun _ _ _ h hb=>h.below hb),(Mb.eq _),(fun _ _ _ h hb=>h.below hb),trivial⟩ trivial ⟨?_,?_,?_,trivial⟩ ?_
 ·intro a' w' hF' hb hd
  exact dc0 (r_call Tryz.func107 en107.1 en107.2 map0) (oSunOrbit_any _) rfl rfl
 ·intro a' w' hF' hb hd
  exact dv0 (r_load (hF'.at 1 rfl) (ld_all ty_Rat ((st.bk 1 rfl).below hb) rfl)) rfl rfl rfl
 ·intro a' w' hF' hb hd
  obtain⟨v3_0,e3,h3_1⟩:=sH hd 0 3 rfl rfl rfl rfl
  have e4:=sHe hd 1 4 rfl rfl rfl rfl
  exact dc0 (r_call Tryz.func108 en108.1 en108.2 (map2 e3 e4)) (oAt_any _ _ pyr pay ssz sch (qt) k _ (hT.below (below_to st.bel hb)) h3_1 (h1.below (below_to st.bel hb)) pyr_lim pay_lim ssz_lim sch_lim hl (by omega)) rfl rfl
 intro a w4 hF bb hall hne
 replace st:=st.to bb
 obtain⟨vv5,e5,hh6⟩:=sS hall 2 5 rfl rfl
 replace st:=st.add hh6 (Rq.cl _)
 clear hh6
 clear hall hne bb
 obtain⟨b7,ad7,n7,c7,ae7,m7,d7,rfl⟩:=Rq.form (st.f 0 rfl)
 replace hF:=hF.add e5
 clear e5
 refine S.sto st hF 0 rfl (hF.at 1 rfl) (hF.at 0 rfl) ty_Rat rfl rfl rfl rfl fun w8 a st hF=>?_
 refine E.nil ?_
 refine wp_ret ?_
 refine S.ret Tryz.results45 st hF (hF.at 1 rfl) 0 rfl ty_Rat rfl hF.dfr ?_
 have bel:=st.bel
 exact⟨_,rfl,(st.f 0 rfl),bel⟩
end Go.Proofs.YtpkhdajnppoinaaGreatDoor
