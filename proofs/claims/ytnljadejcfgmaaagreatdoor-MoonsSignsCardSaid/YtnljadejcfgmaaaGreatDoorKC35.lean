import Derived.Test.YtnljadejcfgmaaaGreatDoorKC34
namespace Go.Proofs.YtnljadejcfgmaaaGreatDoor
open Go.RowKit
set_option maxRecDepth 100000
set_option linter.unusedVariables false
set_option maxHeartbeats 8000000
theorem en31:(Tryz.f31.name == "runtime.NumGoroutine")=false∧Tryz.f31.body.isNone=false:=⟨by decide+kernel,by kernel_rfl⟩
theorem prt_sm {x:Rat} {n:Int} (hn:0<n) (hn2:n≤1000) (h0:0≤x) (h1:x<((360:Int):Rat)):sm64 (Rat.floor (x*(((n:Int):Rat)/((360:Int):Rat))))=prt x n:=by
 have:=prt_bd hn h0 h1
 exact sm64_t (show _≤prt x n by omega) (show prt x n≤_ by omega)
theorem oSunOrbit_any (w:World):
 Calls Tryz.prog 142 #[] w (OrbPost w pyr pay ssz sch):=by
 have st:=St.start w
 refine E.enter (nt:=6) (L:=[]) Tryz.func142 rfl rfl rfl args_nil ?_
 intro a hF
 refine wp_seq ?_
 refine E.seq ?_
 refine S.alloc st hF ty_Orb rfl rfl fun g0 w1 a st hF=>?_
 refine E.nil ?_
 refine wp_seq ?_
 refine E.seq ?_
 refine S.ck st hF (rgc k76 map0) (qmYearM) Rl.cl rfl fun vv3 w2 a st hF=>?_
 obtain⟨b5,ad5,n5,c5,ae5,m5,d5,rfl⟩:=Rq.form (st.f 0 rfl).1
 refine S.ck st hF (rgc k184 map0) (qmAnomalyYearM) Rl.cl rfl fun vv7 w6 a st hF=>?_
 obtain⟨b9,ad9,n9,c9,ae9,m9,d9,rfl⟩:=Rq.form (st.f 0 rfl).1
 refine S.ck st hF (rgc k35 (map2 ev_c ev_c)) (rq_ret (rOf2_any (14) (360) _ (by decide) (by decide) (by decide) (by decide)) (RLim.up (rlim_mk2 (limz_64 (by decide) (by decide)) (limz_64 (by decide) (by decide))) 2 (by decide))) Rl.cl rfl fun vv11 w10 a st hF=>?_
 obtain⟨b13,ad13,n13,c13,ae13,m13,d13,rfl⟩:=Rq.form (st.f 0 rfl).1
 refine S.ck st hF (rgc k35 (map2 ev_c ev_c)) (rq_ret (rOf2_any (1) (42) _ (by decide) (by decide) (by decide) (by decide)) (RLim.up (rlim_mk2 (limz_64 (by decide) (by decide)) (limz_64 (by decide) (by decide))) 2 (by decide))) Rl.cl rfl fun vv15 w14 a st hF=>?_
 obtain⟨b17,ad17,n17,c17,ae17,m17,d17,rfl⟩:=Rq.form (st.f 0 rfl).1
 refine E.opv hF (r_build (pair4 (hF.at 3 rfl) (hF.at 2 rfl) (hF.at 1 rfl) (hF.at 0 rfl)) (bd_Orb_0123 _ _ _ _ _ _ _ _ _ _ _ _ _ _ _ _ _ _ _ _ _ _ _ _ _ _ _ _ _)) rfl rfl rfl rfl fun a hF=>?_
 refine S.sto st hF 0 rfl (hF.at 5 rfl) (hF.at 0 rfl) ty_Orb rfl rfl rfl rfl fun w18 a st hF=>?_
 refine E.nil ?_
 refine wp_ret ?_
 refine S.ret Tryz.results142 st hF (hF.at 5 rfl) 0 rfl ty_Orb rfl hF.dfr ?_
 have bel:=st.bel
 exact⟨_,rfl,⟨_,_,_,_,_,_,_,_,_,_,_,_,_,_,_,_,_,_,_,_,_,_,_,_,_,_,_,_,rfl,(st.f 3 rfl).1,(st.f 2 rfl).1,(st.f 1 rfl).1,(st.f 0 rfl).1⟩,bel⟩
theorem oMoonOrbit_any (w:World):
 Calls Tryz.prog 231 #[] w (OrbPost w pmo pam msz mch):=by
 have st:=St.start w
 refine E.enter (nt:=6) (L:=[]) Tryz.func231 rfl rfl rfl args_nil ?_
 intro a hF
 refine wp_seq ?_
 refine E.seq ?_
 refine S.alloc st hF ty_Orb rfl rfl fun g0 w1 a st hF=>?_
 refine E.nil ?_
 refine wp_seq ?_
 refine E.seq ?_
 refine S.ck st hF (rgc k252 map0) (qmMonthM) Rl.cl rfl fun vv3 w2 a st hF=>?_
 obtain⟨b5,ad5,n5,c5,ae5,m5,d5,rfl⟩:=Rq.form (st.f 0 rfl).1
 refine S.ck st hF (rgc k253 map0) (qmAnomalyMonthM) Rl.cl rfl fun vv7 w6 a st hF=>?_
 obtain⟨b9,ad9,n9,c9,ae9,m9,d9,rfl⟩:=Rq.form (st.f 0 rfl).1
 refine S.ck st hF (rgc k35 (map2 ev_c ev_c)) (rq_ret (rOf2_any (32) (360) _ (by decide) (by decide) (by decide) (by decide)) (RLim.up (rlim_mk2 (limz_64 (by decide) (by decide)) (limz_64 (by decide) (by decide))) 2 (by decide))) Rl.cl rfl fun vv11 w10 a st hF=>?_
 obtain⟨b13,ad13,n13,c13,ae13,m13,d13,rfl⟩:=Rq.form (st.f 0 rfl).1
 refine S.ck st hF (rgc k35 (map2 ev_c ev_c)) (rq_ret (rOf2_any (1) (96) _ (by decide) (by decide) (by decide) (by decide)) (RLim.up (rlim_mk2 (limz_64 (by decide) (by decide)) (limz_64 (by decide) (by decide))) 2 (by decide))) Rl.cl rfl fun vv15 w14 a st hF=>?_
 obtain⟨b17,ad17,n17,c17,ae17,m17,d17,rfl⟩:=Rq.form (st.f 0 rfl).1
 refine E.opv hF (r_build (pair4 (hF.at 3 rfl) (hF.at 2 rfl) (hF.at 1 rfl) (hF.at 0 rfl)) (bd_Orb_0123 _ _ _ _ _ _ _ _ _ _ _ _ _ _ _ _ _ _ _ _ _ _ _ _ _ _ _ _ _)) rfl rfl rfl rfl fun a hF=>?_
 refine S.sto st hF 0 rfl (hF.at 5 rfl) (hF.at 0 rfl) ty_Orb rfl rfl rfl rfl fun w18 a st hF=>?_
 refine E.nil ?_
 refine wp_ret ?_
 refine S.ret Tryz.results231 st hF (hF.at 5 rfl) 0 rfl ty_Orb rfl hF.dfr ?_
 have bel:=st.bel
 exact⟨_,rfl,⟨_,_,_,_,_,_,_,_,_,_,_,_,_,_,_,_,_,_,_,_,_,_,_,_,_,_,_,_,rfl,(st.f 3 rfl).1,(st.f 2 rfl).1,(st.f 1 rfl).1,(st.f 0 rfl).1⟩,bel⟩
theorem oEq_any (v1 v2:Value) (qp qa qs qc qt:Rat) (k:Nat) (w:World) (hT:TabD w) (ho:Orb w v1 qp qa qs qc) (h2:Rq w v2 qt) (lqp:RLim qp 2) (lqa:RLim qa 2) (lqs:RLim qs 2) (lqc:RLim qc 2) (hl:RLim qt k) (hk:k≤100):
 Calls Tryz.prog 187 #[v1,v2] w (RqPost w (eqv qt qa qs qc)):=by
 obtain⟨qb1,qx1,qn1,qk1,qy1,qm1,qd1,qb2,qx2,qn2,qk2,qy2,qm2,qd2,qb3,qx3,qn3,qk3,qy3,qm3,qd3,qb4,qx4,qn4,qk4,qy4,qm4,qd4,rfl,hr1,hr2,hr3,hr4⟩:=ho
 have ho:Orb w (.agg #[.bool qb1,.slice qx1 qn1 qk1,.slice qy1 qm1 qd1,.bool qb2,.slice qx2 qn2 qk2,.slice qy2 qm2 qd2,.bool qb3,.slice qx3 qn3 qk3,.slice qy3 qm3 qd3,.bool qb4,.slice qx4 qn4 qk4,.slice qy4 qm4 qd4]) qp qa qs qc:=⟨_,_,_,_,_,_,_,_,_,_,_,_,_,_,_,_,_,_,_,_,_,_,_,_,_,_,_,_,rfl,hr1,hr2,hr3,hr4⟩
 have st:=St.start w
 refine E.enter (nt:=27) (L:=[(0,.agg #[.bool qb1,.slice qx1 qn1 qk1,.slice qy1 qm1 qd1,.bool qb2,.slice qx2 qn2 qk2,.slice qy2 qm2 qd2,.bool qb3,.slice qx3 qn3 qk3,.slice qy3 qm3 qd3,.bool qb4,.slice qx4 qn4 qk4,.slice qy4 qm4 qd4]),(1,v2)]) Tryz.func187 rfl rfl rfl (args_cons (i:=0) rfl (args_cons (i:=1) rfl args_nil)) ?_
 intro a hF
 refine wp_seq ?_
 refine E.seq ?_
 refine S.box st hF (hF.at 0 rfl) rfl rfl fun g2 w1 a st hF=>?_
 obtain⟨b3,ad3,n3,c3,ae3,m3,d3,rfl⟩:=Rq.form h2
 refine S.box st hF (hF.at 2 rfl) rfl rfl fun g3 w2 a st hF=>?_
 refine S.alloc st hF ty_Rat rfl rfl fun g4 w4 a st hF=>?_
 refine E.nil ?_
 refine wp_seq ?_
 refine E.seq ?_
 refine E.opv hF (r_load (hF.at 1 rfl) (ld_all ty_Rat (st.bk 1 rfl) rfl)) rfl rfl rfl rfl fun a hF=>?_
 refine E.opv hF (r_field (hF.at 3 rfl) (fa_Orb_1 (p:=3) rfl)) rfl rfl rfl rfl fun a hF=>?_
 refine E.opv hF (r_load (hF.at 0 rfl) (ld_Rat (vs:=[.bool qb2,.slice qx2 qn2 qk2,.slice qy2 qm2 qd2]) (st.b 2 rfl rfl) rfl rfl)) rfl rfl rfl rfl fun a hF=>?_
 refine S.ck st hF (rgc k186 (map2 (hF.at 2 rfl) (hF.at 0 rfl))) (qmOfM ⟨(h2.below st.bel),hl⟩ ⟨(hr2.below st.bel),lqa⟩) Rl.cl rfl fun vv6 w5 a st hF=>?_
 obtain⟨b8,ad8,n8,c8,ae8,m8,d8,rfl⟩:=Rq.form (st.f 0 rfl).1
 refine S.ck st hF (rgc k223 (map1 (hF.at 0 rfl))) (qOf (hT.below st.bel) (st.f 0 rfl)) Rl.cl rfl fun vv10 w9 a st hF=>?_
 obtain⟨b12,ad12,n12,c12,ae12,m12,d12,rfl⟩:=Rq.form (st.f 0 rfl).1
 refine S.new st hF 0 rfl ty_Rat rfl rfl rfl rfl rfl fun g5 w13 a st hF=>?_
 refine E.nil ?_
 refine wp_seq ?_
 refine E.rga 9 mixed hF [12,13,14,15,16,17,18,19,6] [_,_,_,.ex (.agg #[.bool qb4,.slice qx4 qn4 qk4,.slice qy4 qm4 qd4]),_,_,.ex (.agg #[.bool qb3,.slice qx3 qn3 qk3,.slice qy3 qm3 qd3]),_,kn w13 [.bool false,.slice none 0 0,.slice none 0 0]] [8] ⟨fun _ _ ⟨g,e,_,o⟩=>⟨g,e,o.lt⟩,trivial⟩ (by decide+kernel) rfl rfl rfl ⟨rb st ty_Rat 0 0 rfl,ck st k224 rfl fun _ s=>qAbs (s.f 0 rfl),rd rfl rfl fun a' w' hF' hb=>(r_field (hF'.at 8 rfl) (fa_Orb_3 (p:=9) rfl)),(by intro a' w' hF' hb hd;have e14:=sHe hd 0 14 rfl rfl rfl rfl;exact dv0 (r_load e14 (ld_Rat (vs:=[.bool qb4,.slice qx4 qn4 qk4,.slice qy4 qm4 qd4]) ((st.b 3 rfl rfl).below hb) rfl rfl)) rfl rfl rfl),ck st k58 rfl fun _ s _ x13=>qMul x13 ⟨(hr4.below s.bel),lqc⟩,rd rfl rfl fun a' w' hF' hb=>(r_field (hF'.at 8 rfl) (fa_Orb_2 (p:=6) rfl)),(by intro a' w' hF' hb hd;have e17:=sHe hd 0 17 rfl rfl rfl rfl;exact dv0 (r_load e17 (ld_Rat (vs:=[.bool qb3,.slice qx3 qn3 qk3,.slice qy3 qm3 qd3]) ((st.b 3 rfl rfl).below hb) rfl rfl)) rfl rfl rfl),ck st k58 rfl fun _ s _ x16=>qMul x16 ⟨(hr3.below s.bel),lqs⟩,ra ty_Rat rfl rfl,trivial⟩ ?_
 intro a w14 hF bb hall hne
 have s0:=st
 replace st:=st.to bb
 obtain⟨vv15,hF,st⟩:=rS hall hF st 7 rfl rfl Rl.cl
 obtain⟨b17,ad17,n17,c17,ae17,m17,d17,rfl⟩:=Rq.form (st.f 0 rfl).1
 obtain⟨_,e6,g6,rfl,ge6,o6⟩:=sS hall 8 6 rfl rfl
 replace st:=st.push o6.blk (Nat.le_trans s0.bel.size ge6) (s0.ne ge6)
 clear o6
 replace hF:=hF.add e6
 clear hall bb hne s0
 refine S.sto st hF 0 rfl (hF.at 0 rfl) (hF.at 1 rfl) ty_Rat rfl rfl rfl rfl fun w18 a st hF=>?_
 refine E.nil ?_
 refine wp_seq ?_
 refine E.rg 7 mixed hF [20,21,22,23,24,25,26] [_,_,.ex (.agg #[.bool qb3,.slice qx3 qn3 qk3,.slice qy3 qm3 qd3]),_,_,_,_] (by decide+kernel) rfl rfl rfl ⟨rb st ty_Rat 2 1 rfl,rd rfl rfl fun a' w' hF' hb=>(r_field (hF'.at 10 rfl) (fa_Orb_2 (p:=6) rfl)),(by intro a' w' hF' hb hd;have e21:=sHe hd 0 21 rfl rfl rfl rfl;exact dv0 (r_load e21 (ld_Rat (vs:=[.bool qb3,.slice qx3 qn3 qk3,.slice qy3 qm3 qd3]) ((st.b 4 rfl rfl).below hb) rfl rfl)) rfl rfl rfl),rb st ty_Rat 0 0 rfl,ck st k57 rfl fun _ s=>qSub ⟨(hr3.below s.bel),lqs⟩ (s.f 0 rfl),ck st k58 rfl fun _ s _ x24=>qMul (s.f 1 rfl) x24,ck st k225 rfl fun _ s _ x25=>qArc (hT.below s.bel) x25,trivial⟩ ?_
 intro a w19 hF bb hall
 replace st:=st.to bb
 obtain⟨vv20,hF,st⟩:=rS hall hF st 6 rfl rfl Rl.cl
 obtain⟨b22,ad22,n22,c22,ae22,m22,d22,rfl⟩:=Rq.form (st.f 0 rfl).1
 clear hall bb
 refine S.sto st hF 2 rfl (hF.at 9 rfl) (hF.at 0 rfl) ty_Rat rfl rfl rfl rfl fun w23 a st hF=>?_
 refine E.nil ?_
 refine wp_ret ?_
 refine S.ret Tryz.results187 st hF (hF.at 9 rfl) 2 rfl ty_Rat rfl hF.dfr ?_
 have bel:=st.bel
 exact⟨_,rfl,(st.f 0 rfl).1,bel⟩
theorem oAround_any (v1:Value) (qt:Rat) (k:Nat) (w:World) (h1:Rq w v1 qt) (hl:RLim qt k) (hk:k≤1000):
 Calls Tryz.prog 185 #[v1] w (RqPost w (rmod qt ((360:Int):Rat))):=by
 have st:=St.start w
 refine E.enter (nt:=6) (L:=[(0,v1)]) Tryz.func185 rfl rfl rfl (args_cons (i:=0) rfl args_nil) ?_
 intro a hF
 refine wp_seq ?_
 refine E.seq ?_
 obtain⟨b2,ad2,n2,c2,ae2,m2,d2,rfl⟩:=Rq.form h1
 refine S.box st hF (hF.at 0 rfl) rfl rfl fun g1 w1 a st hF=>?_
 refine S.alloc st hF ty_Rat rfl rfl fun g2 w3 a st hF=>?_
 refine E.nil ?_
 refine wp_seq ?_
 refine E.rg 3 mixed hF [3,4,5] [_,_,_] (by decide+kernel) rfl rfl rfl ⟨rb st ty_Rat 1 1 rfl,ck st k40 rfl fun _ s=>rq_ret (rWhole_any (360) _ (by decide) (by decide)) (rlim_int (limz_64 (by decide) (by decide)) (by omega)),ck st k220 rfl fun _ s _ x4=>qMod3 ⟨(h1.below s.bel),hl⟩ x4,trivial⟩ ?_
 intro a w4 hF bb hall
 replace st:=st.to bb
 obtain⟨vv5,hF,st⟩:=rS hall hF st 2 rfl rfl Rl.cl
 obtain⟨b7,ad7,n7,c7,ae7,m7,d7,rfl⟩:=Rq.form (st.f 0 rfl).1
 clear hall bb
 refine S.sto st hF 0 rfl (hF.at 1 rfl) (hF.at 0 rfl) ty_Rat rfl rfl rfl rfl fun w8 a st hF=>?_
 refine E.nil ?_
 refine wp_ret ?_
 refine S.ret Tryz.results185 st hF (hF.at 1 rfl) 0 rfl ty_Rat rfl hF.dfr ?_
 have bel:=st.bel
 exact⟨_,rfl,(st.f 0 rfl).1,bel⟩
theorem oAt_any (v1 v2:Value) (qp qa qs qc qt:Rat) (k:Nat) (w:World) (hT:TabD w) (ho:Orb w v1 qp qa qs qc) (h2:Rq w v2 qt) (lqp:RLim qp 2) (lqa:RLim qa 2) (lqs:RLim qs 2) (lqc:RLim qc 2) (hl:RLim qt k) (hk:k≤100):
 Calls Tryz.prog 143 #[v1,v2] w (RqPost w (atv qt qp qa qs qc)):=by
 obtain⟨qb1,qx1,qn1,qk1,qy1,qm1,qd1,qb2,qx2,qn2,qk2,qy2,qm2,qd2,qb3,qx3,qn3,qk3,qy3,qm3,qd3,qb4,qx4,qn4,qk4,qy4,qm4,qd4,rfl,hr1,hr2,hr3,hr4⟩:=ho
 have ho:Orb w (.agg #[.bool qb1,.slice qx1 qn1 qk1,.slice qy1 qm1 qd1,.bool qb2,.slice qx2 qn2 qk2,.slice qy2 qm2 qd2,.bool qb3,.slice qx3 qn3 qk3,.slice qy3 qm3 qd3,.bool qb4,.slice qx4 qn4 qk4,.slice qy4 qm4 qd4]) qp qa qs qc:=⟨_,_,_,_,_,_,_,_,_,_,_,_,_,_,_,_,_,_,_,_,_,_,_,_,_,_,_,_,rfl,hr1,hr2,hr3,hr4⟩
 have st:=St.start w
 refine E.enter (nt:=14) (L:=[(0,.agg #[.bool qb1,.slice qx1 qn1 qk1,.slice qy1 qm1 qd1,.bool qb2,.slice qx2 qn2 qk2,.slice qy2 qm2 qd2,.bool qb3,.slice qx3 qn3 qk3,.slice qy3 qm3 qd3,.bool qb4,.slice qx4 qn4 qk4,.slice qy4 qm4 qd4]),(1,v2)]) Tryz.func143 rfl rfl rfl (args_cons (i:=0) rfl (args_cons (i:=1) rfl args_nil)) ?_
 intro a hF
 refine wp_seq ?_
 refine E.seq ?_
 refine S.box st hF (hF.at 0 rfl) rfl rfl fun g2 w1 a st hF=>?_
 obtain⟨b3,ad3,n3,c3,ae3,m3,d3,rfl⟩:=Rq.form h2
 refine S.box st hF (hF.at 2 rfl) rfl rfl fun g3 w2 a st hF=>?_
 refine S.alloc st hF ty_Rat rfl rfl fun g4 w4 a st hF=>?_
 refine E.nil ?_
 refine wp_seq ?_
 refine E.rg 9 mixed hF [5,6,7,8,9,10,11,12,13] [_,_,.ex (.agg #[.bool qb1,.slice qx1 qn1 qk1,.slice qy1 qm1 qd1]),_,_,_,_,_,_] (by decide+kernel) rfl rfl rfl ⟨rb st ty_Rat 1 1 rfl,rd rfl rfl fun a' w' hF' hb=>(r_field (hF'.at 2 rfl) (fa_Orb_0 (p:=0) rfl)),(by intro a' w' hF' hb hd;have e6:=sHe hd 0 6 rfl rfl rfl rfl;exact dv0 (r_load e6 (ld_Rat (vs:=[.bool qb1,.slice qx1 qn1 qk1,.slice qy1 qm1 qd1]) ((st.b 2 rfl rfl).below hb) rfl rfl)) rfl rfl rfl),ck st k186 rfl fun _ s=>qmOfM ⟨(h2.below s.bel),hl⟩ ⟨(hr1.below s.bel),lqp⟩,rb st ty_Orb 2 2 rfl,rb st ty_Rat 1 1 rfl,ck st k187 rfl fun _ s=>rq_ret (oEq_any _ _ qp qa qs qc (qt) k _ (hT.below s.bel) (ho.below s.bel) (h2.below s.bel) lqp lqa lqs lqc hl (by omega)) (eqv_lim hl lqa lqs lqc),ck st k57 rfl fun _ s _ x8 _ x11=>qSub x8 x11,ck st k185 rfl fun _ s _ x12=>rq_ret (oAround_any _ ((mof (qt) (qp))-(eqv (qt) qa qs qc)) ((k+2+5)+(2*k+2*2+2*2+2+60)+1) _ x12.1 x12.2 (by omega)) (rmod360_lim x12.2),trivial⟩ ?_
 intro a w5 hF bb hall
 replace st:=st.to bb
 obtain⟨vv6,hF,st⟩:=rS hall hF st 8 rfl rfl Rl.cl
 obtain⟨b8,ad8,n8,c8,ae8,m8,d8,rfl⟩:=Rq.form (st.f 0 rfl).1
 clear hall bb
 refine S.sto st hF 0 rfl (hF.at 1 rfl) (hF.at 0 rfl) ty_Rat rfl rfl rfl rfl fun w9 a st hF=>?_
 refine E.nil ?_
 refine wp_ret ?_
 refine S.ret Tryz.results143 st hF (hF.at 1 rfl) 0 rfl ty_Rat rfl hF.dfr ?_
 have bel:=st.bel
 exact⟨_,rfl,(st.f 0 rfl).1,bel⟩
theorem oSun_any (v1:Value) (qt:Rat) (k:Nat) (w:World) (hT:TabD w) (h1:Rq w v1 qt) (hl:RLim qt k) (hk:k≤100):
 Calls Tryz.prog 78 #[v1] w (RqPost w (sunV qt)):=by
 have st:=St.start w
 refine E.enter (nt:=6) (L:=[(0,v1)]) Tryz.func78 rfl rfl rfl (args_cons (i:=0) rfl args_nil) ?_
 intro a hF
 refine wp_seq ?_
 refine E.seq ?_
 obtain⟨b2,ad2,n2,c2,ae2,m2,d2,rfl⟩:=Rq.form h1
 refine S.box st hF (hF.at 0 rfl) rfl rfl fun g1 w1 a st hF=>?_
 refine S.alloc st hF ty_Rat rfl rfl fun g2 w3 a st hF=>?_
 refine E.nil ?_
 refine wp_seq ?_
 refine E.rg 3 mixed hF [3,4,5] [.of (fun w v=>Orb w v pyr pay ssz sch) (fun _ _ _ h hb=>h.below hb),_,_] (by decide+kernel) rfl rfl rfl ⟨ck st k142 rfl fun _ s=>pk_ret (oSunOrbit_any _),rb st ty_Rat 1 1 rfl,ck st k143 rfl fun _ s _ x3=>rq_ret (oAt_any _ _ pyr pay ssz sch (qt) k _ (hT.below s.bel) x3 (h1.below s.bel) pyr_lim pay_lim ssz_lim sch_lim hl (by omega)) (sunV_lim hl),trivial⟩ ?_
 intro a w4 hF bb hall
 replace st:=st.to bb
 obtain⟨vv5,hF,st⟩:=rS hall hF st 2 rfl rfl Rl.cl
 obtain⟨b7,ad7,n7,c7,ae7,m7,d7,rfl⟩:=Rq.form (st.f 0 rfl).1
 clear hall bb
 refine S.sto st hF 0 rfl (hF.at 1 rfl) (hF.at 0 rfl) ty_Rat rfl rfl rfl rfl fun w8 a st hF=>?_
 refine E.nil ?_
 refine wp_ret ?_
 refine S.ret Tryz.results78 st hF (hF.at 1 rfl) 0 rfl ty_Rat rfl hF.dfr ?_
 have bel:=st.bel
 exact⟨_,rfl,(st.f 0 rfl).1,bel⟩
theorem oMoon_any (v1:Value) (qt:Rat) (k:Nat) (w:World) (hT:TabD w) (h1:Rq w v1 qt) (hl:RLim qt k) (hk:k≤100):
 Calls Tryz.prog 194 #[v1] w (RqPost w (moonV qt)):=by
 have st:=St.start w
 refine E.enter (nt:=6) (L:=[(0,v1)]) Tryz.func194 rfl rfl rfl (args_cons (i:=0) rfl args_nil) ?_
 intro a hF
 refine wp_seq ?_
 refine E.seq ?_
 obtain⟨b2,ad2,n2,c2,ae2,m2,d2,rfl⟩:=Rq.form h1
 refine S.box st hF (hF.at 0 rfl) rfl rfl fun g1 w1 a st hF=>?_
 refine S.alloc st hF ty_Rat rfl rfl fun g2 w3 a st hF=>?_
 refine E.nil ?_
 refine wp_seq ?_
 refine E.rg 3 mixed hF [3,4,5] [.of (fun w v=>Orb w v pmo pam msz mch) (fun _ _ _ h hb=>h.below hb),_,_] (by decide+kernel) rfl rfl rfl ⟨ck st k231 rfl fun _ s=>pk_ret (oMoonOrbit_any _),rb st ty_Rat 1 1 rfl,ck st k143 rfl fun _ s _ x3=>rq_ret (oAt_any _ _ pmo pam msz mch (qt) k _ (hT.below s.bel) x3 (h1.below s.bel) pmo_lim pam_lim msz_lim mch_lim hl (by omega)) (moonV_lim hl),trivial⟩ ?_
 intro a w4 hF bb hall
 replace st:=st.to bb
 obtain⟨vv5,hF,st⟩:=rS hall hF st 2 rfl rfl Rl.cl
 obtain⟨b7,ad7,n7,c7,ae7,m7,d7,rfl⟩:=Rq.form (st.f 0 rfl).1
 clear hall bb
 refine S.sto st hF 0 rfl (hF.at 1 rfl) (hF.at 0 rfl) ty_Rat rfl rfl rfl rfl fun w8 a st hF=>?_
 refine E.nil ?_
 refine wp_ret ?_
 refine S.ret Tryz.results194 st hF (hF.at 1 rfl) 0 rfl ty_Rat rfl hF.dfr ?_
 have bel:=st.bel
 exact⟨_,rfl,(st.f 0 rfl).1,bel⟩
theorem oPhase_any (v1:Value) (qt:Rat) (k:Nat) (w:World) (hT:TabD w) (h1:Rq w v1 qt) (hl:RLim qt k) (hk:k≤100):
 Calls Tryz.prog 153 #[v1] w (RqPost w (phaseV qt)):=by
 have st:=St.start w
 refine E.enter (nt:=9) (L:=[(0,v1)]) Tryz.func153 rfl rfl rfl (args_cons (i:=0) rfl args_nil) ?_
 intro a hF
 refine wp_seq ?_
 refine E.seq ?_
 obtain⟨b2,ad2,n2,c2,ae2,m2,d2,rfl⟩:=Rq.form h1
 refine S.box st hF (hF.at 0 rfl) rfl rfl fun g1 w1 a st hF=>?_
 refine S.alloc st hF ty_Rat rfl rfl fun g2 w3 a st hF=>?_
 refine E.nil ?_
 refine wp_seq ?_
 refine E.rg 6 mixed hF [3,4,5,6,7,8] [_,_,_,_,_,_] (by decide+kernel) rfl rfl rfl ⟨rb st ty_Rat 1 1 rfl,ck st k194 rfl fun _ s=>rq_ret (oMoon_any _ (qt) k _ (hT.below s.bel) (h1.below s.bel) hl (by omega)) (moonV_lim hl),rb st ty_Rat 1 1 rfl,ck st k78 rfl fun _ s=>rq_ret (oSun_any _ (qt) k _ (hT.below s.bel) (h1.below s.bel) hl (by omega)) (sunV_lim hl),ck st k57 rfl fun _ s _ x4 _ x6=>qSub x4 x6,ck st k185 rfl fun _ s _ x7=>rq_ret (oAround_any _ ((moonV (qt))-(sunV (qt))) ((3*k+100)+(3*k+100)+1) _ x7.1 x7.2 (by omega)) (rmod360_lim x7.2),trivial⟩ ?_
 intro a w4 hF bb hall
 replace st:=st.to bb
 obtain⟨vv5,hF,st⟩:=rS hall hF st 5 rfl rfl Rl.cl
 obtain⟨b7,ad7,n7,c7,ae7,m7,d7,rfl⟩:=Rq.form (st.f 0 rfl).1
 clear hall bb
 refine S.sto st hF 0 rfl (hF.at 1 rfl) (hF.at 0 rfl) ty_Rat rfl rfl rfl rfl fun w8 a st hF=>?_
 refine E.nil ?_
 refine wp_ret ?_
 refine S.ret Tryz.results153 st hF (hF.at 1 rfl) 0 rfl ty_Rat rfl hF.dfr ?_
 have bel:=st.bel
 exact⟨_,rfl,(st.f 0 rfl).1,bel⟩
theorem oPart_any (v1:Value) (qt:Rat) (k:Nat) (n:Int) (w:World) (h1:Rq w v1 qt) (hl:RLim qt k) (hk:k≤1000) (hn:0<n) (hn2:n≤1000) (h0:0≤qt) (h3:qt<((360:Int):Rat)):
 Calls Tryz.prog 96 #[v1,.int .i64 n] w (ValPost w (.int .i64 (prt qt n))):=by
 have st:=St.start w
 refine E.enter (nt:=16) (L:=[(0,v1),(1,.int .i64 n)]) Tryz.func96 rfl rfl rfl (args_cons (i:=0) rfl (args_cons (i:=1) rfl args_nil)) ?_
 intro a hF
 refine wp_seq ?_
 refine E.seq ?_
 obtain⟨b2,ad2,n2,c2,ae2,m2,d2,rfl⟩:=Rq.form h1
 refine S.box st hF (hF.at 0 rfl) rfl rfl fun g2 w1 a st hF=>?_
 refine E.opv hF (r_assign ev_c) rfl rfl rfl rfl fun a hF=>?_
 refine E.nil ?_
 refine wp_seq ?_
 refine E.rg 10 mixed hF [8,9,10,11,12,7,13,14,5,6] [_,_,_,_,_,.ex (.tuple #[.int .i64 (sm64 (Rat.floor ((qt)*(((n:Int):Rat)/((360:Int):Rat))))),.bool (fit64 (Rat.floor ((qt)*(((n:Int):Rat)/((360:Int):Rat)))))]),.ex (.int .i64 (sm64 (Rat.floor ((qt)*(((n:Int):Rat)/((360:Int):Rat)))))),.ex (.bool (fit64 (Rat.floor ((qt)*(((n:Int):Rat)/((360:Int):Rat)))))),.ex (.int .i64 (sm64 (Rat.floor ((qt)*(((n:Int):Rat)/((360:Int):Rat)))))),.ex (.bool (fit64 (Rat.floor ((qt)*(((n:Int):Rat)/((360:Int):Rat))))))] (by decide+kernel) rfl rfl rfl ⟨rb st ty_Rat 1 0 rfl,rm 3 rfl,ck st k35 rfl fun _ s=>rq_ret (rOf2_any (n) (360) _ (by omega) (by omega) (by decide) (by decide)) (RLim.up (rlim_mk2 (limz_64 (by omega) (by omega)) (limz_64 (by decide) (by decide))) 2 (by decide)),ck st k58 rfl fun _ s _ x10=>qMul ⟨(h1.below s.bel),hl⟩ x10,ck st k89 rfl fun _ s _ x11=>ex_ret (cDays_any _ ((qt)*(((n:Int):Rat)/((360:Int):Rat))) (k+2) _ x11.1 x11.2 (by omega)),(by intro a' w' hF' hb hd;have e12:=sHe hd 0 12 rfl rfl rfl rfl;exact dv0 (r_move e12) rfl rfl rfl),(by intro a' w' hF' hb hd;have e7:=sHe hd 0 7 rfl rfl rfl rfl;exact dv0 (r_extract (v:= .int .i64 (sm64 (Rat.floor ((qt)*(((n:Int):Rat)/((360:Int):Rat)))))) e7 rfl) rfl rfl rfl),(by intro a' w' hF' hb hd;have e7:=sHe hd 0 7 rfl rfl rfl rfl;exact dv0 (r_extract (v:= .bool (fit64 (Rat.floor ((qt)*(((n:Int):Rat)/((360:Int):Rat)))))) e7 rfl) rfl rfl rfl),(by intro a' w' hF' hb hd;have e13:=sHe hd 0 13 rfl rfl rfl rfl;exact dv0 (r_assign e13) rfl rfl rfl),(by intro a' w' hF' hb hd;have e14:=sHe hd 0 14 rfl rfl rfl rfl;exact dv0 (r_assign e14) rfl rfl rfl),trivial⟩ ?_
 intro a w3 hF bb hall
 replace st:=st.to bb
 replace hF:=rE hall hF 8 rfl rfl
 clear hall bb
 refine E.nil ?_
 refine wp_seq ?_
 refine E.seq ?_
 refine E.opv hF (r_move (hF.at 0 rfl)) rfl rfl rfl rfl fun a hF=>?_
 refine E.opset (L':=[(4,.int .i64 (sm64 (Rat.floor ((qt)*(((n:Int):Rat)/((360:Int):Rat)))))),(15,.int .i64 (sm64 (Rat.floor ((qt)*(((n:Int):Rat)/((360:Int):Rat)))))),(5,.int .i64 (sm64 (Rat.floor ((qt)*(((n:Int):Rat)/((360:Int):Rat)))))),(2,.pointer (some ⟨g2,0,none⟩)),(0,.agg #[.bool b2,.slice ad2 n2 c2,.slice ae2 m2 d2]),(1,.int .i64 n)]) hF (r_assign (hF.at 0 rfl)) rfl rfl rfl rfl fun a hF=>?_
 refine E.nil ?_
 refine wp_ret ?_
 have bel:=st.bel
 refine bodyPost_ret (res_tmp Tryz.results96 (hF.at 0 rfl)) hF.dfr ?_
 exact⟨rv_int (prt_sm hn hn2 h0 h3),bel⟩
theorem oSign_any (v1:Value) (qt:Rat) (k:Nat) (w:World) (hT:TabD w) (h1:Rq w v1 qt) (hl:RLim qt k) (hk:k≤100):
 Calls Tryz.prog 31 #[v1] w (ValPost w (.int .i64 (prt (sunV qt) 12))):=by
 have st:=St.start w
 refine E.enter (nt:=6) (L:=[(0,v1)]) Tryz.func31 rfl rfl rfl (args_cons (i:=0) rfl args_nil) ?_
 intro a hF
 refine wp_seq ?_
 refine E.seq ?_
 obtain⟨b2,ad2,n2,c2,ae2,m2,d2,rfl⟩:=Rq.form h1
 refine S.box st hF (hF.at 0 rfl) rfl rfl fun g1 w1 a st hF=>?_
 refine E.opv hF (r_assign ev_c) rfl rfl rfl rfl fun a hF=>?_
 refine E.nil ?_
 refine wp_seq ?_
 refine E.seq ?_
 refine E.opv hF (r_load (hF.at 1 rfl) (ld_all ty_Rat (st.bk 0 rfl) rfl)) rfl rfl rfl rfl fun a hF=>?_
 refine S.ck st hF (rgc k78 (map1 (hF.at 0 rfl))) (rq_ret (oSun_any _ (qt) k _ (hT.below st.bel) (h1.below st.bel) hl (by omega)) (sunV_lim hl)) Rl.cl rfl fun vv4 w3 a st hF=>?_
 obtain⟨b6,ad6,n6,c6,ae6,m6,d6,rfl⟩:=Rq.form (st.f 0 rfl).1
 refine S.callx st hF (rgc k96 (map2 (hF.at 0 rfl) ev_c)) (oPart_any _ _ (3*k+100) 12 _ (st.f 0 rfl).1 (st.f 0 rfl).2 (by omega) (by omega) (by omega) (sunV_low _) (sunV_high _)) rfl rfl rfl rfl fun w7 a st hF=>?_
 have hpt16215:=prt_bd (x:=sunV (qt)) (n:=12) (by omega) (sunV_low _) (sunV_high _)
 refine E.opset (L':=[(2,.int .i64 (prt (sunV (qt)) 12)),(5,.int .i64 (prt (sunV (qt)) 12)),(4,.agg #[.bool b6,.slice ad6 n6 c6,.slice ae6 m6 d6]),(3,.agg #[.bool b2,.slice ad2 n2 c2,.slice ae2 m2 d2]),(1,.pointer (some ⟨g1,0,none⟩)),(0,.agg #[.bool b2,.slice ad2 n2 c2,.slice ae2 m2 d2])]) hF (r_assign (hF.at 0 rfl)) rfl rfl rfl rfl fun a hF=>?_
 refine E.nil ?_
 refine wp_ret ?_
 have bel:=st.bel
 refine bodyPost_ret (res_tmp Tryz.results31 (hF.at 0 rfl)) hF.dfr ?_
 exact⟨rfl,bel⟩
theorem qoPhaseO {v1:Value} {p1:Rat} {k1:Nat} {w:World} (hT:TabD w) (x1:Rl p1 k1 w v1) (a1:k1≤100:=by omega):Calls Tryz.prog 153 #[v1] w (Ret (kq (phaseV (p1)) ((6*k1+210))) w):=rq_ret (oPhase_any _ (p1) k1 _ hT x1.1 x1.2 (by omega)) (phaseV_lim x1.2)
end Go.Proofs.YtnljadejcfgmaaaGreatDoor
