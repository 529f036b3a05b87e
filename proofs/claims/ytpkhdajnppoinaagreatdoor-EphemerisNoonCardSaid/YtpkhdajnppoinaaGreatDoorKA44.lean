import Derived.Test.YtpkhdajnppoinaaGreatDoorKA27
import Derived.Test.YtpkhdajnppoinaaGreatDoorKA43
namespace Go.Proofs.YtpkhdajnppoinaaGreatDoor
open Go.RowKit
set_option maxRecDepth 100000
set_option linter.unusedVariables false
set_option maxHeartbeats 8000000
theorem noon_walk (da la lb lc ld:Int) (w:World) (hT:TabD w):
 Calls Tryz.prog 8 #[.int .i64 da,.int .i64 la,.int .i64 lb,.int .i64 lc,.int .i64 ld] w (ValPost w (.bool true)):=by
 have st:=St.start w
 refine E.enter (nt:=85) (L:=[(0,.int .i64 da),(1,.int .i64 la),(2,.int .i64 lb),(3,.int .i64 lc),(4,.int .i64 ld)]) Tryz.func8 rfl rfl rfl (args_cons (i:=0) rfl (args_cons (i:=1) rfl (args_cons (i:=2) rfl (args_cons (i:=3) rfl (args_cons (i:=4) rfl args_nil))))) ?_
 intro a hF
 refine wp_seq ?_
 refine E.seq ?_
 refine E.opv hF (r_assign ev_c) rfl rfl rfl rfl fun a hF=>?_
 refine E.nil ?_
 refine wp_seq ?_
 refine wp_seq ?_
 refine E.seq ?_
 refine S.callx st hF (r_call Tryz.func48 en48.1 en48.2 map0) (live_any _) rfl rfl rfl rfl fun w1 a st hF=>?_
 refine E.opv hF (r_un (hF.at 0 rfl) (bn_not _ false rfl)) rfl rfl rfl rfl fun a hF=>?_
 refine E.nil ?_
 refine wp_cond_false (hF.at 0 rfl) ?_
 refine wp_skip ?_
 refine E.norm ?_
 refine wp_seq ?_
 refine E.seq ?_
 refine E.opv hF (r_move (hF.at 3 rfl)) rfl rfl rfl rfl fun a hF=>?_
 refine S.callx st hF (r_call Tryz.func29 en29.1 en29.2 (map1 (hF.at 0 rfl))) (inD_any da _) rfl rfl rfl rfl fun w2 a st hF=>?_
 have hin:=inD_bd da
 refine E.opv hF (r_assign (hF.at 0 rfl)) rfl rfl rfl rfl fun a hF=>?_
 refine E.nil ?_
 refine wp_seq ?_
 refine E.seq ?_
 refine E.opv hF (r_move (hF.at 7 rfl)) rfl rfl rfl rfl fun a hF=>?_
 refine E.opv hF (r_move (hF.at 9 rfl)) rfl rfl rfl rfl fun a hF=>?_
 refine E.opv hF (r_move (hF.at 11 rfl)) rfl rfl rfl rfl fun a hF=>?_
 refine E.opv hF (r_move (hF.at 13 rfl)) rfl rfl rfl rfl fun a hF=>?_
 refine S.callx st hF (r_call Tryz.func12 en12.1 en12.2 (map4 (hF.at 3 rfl) (hF.at 2 rfl) (hF.at 1 rfl) (hF.at 0 rfl))) (good_any la lb lc ld _) rfl rfl rfl rfl fun w3 a st hF=>?_
 have hg1:=gB_bd lb
 have hg2:=gLat_bd la lb
 have hg3:=gB_bd ld
 have hg4:=gLon_bd lc ld
 have hok6974:=good_ok la lb lc ld
 refine S.new st hF 0 rfl ty_Plc rfl rfl rfl rfl rfl fun g12 w4 a st hF=>?_
 refine E.nil ?_
 refine wp_seq ?_
 refine E.seq ?_
 refine E.opv hF (r_load (hF.at 0 rfl) (ld_all ty_Plc (st.bk 0 rfl) rfl)) rfl rfl rfl rfl fun a hF=>?_
 refine S.new st hF 0 rfl ty_Plc rfl rfl rfl rfl rfl fun g13 w5 a st hF=>?_
 refine E.nil ?_
 refine wp_seq ?_
 refine E.seq ?_
 refine E.opv hF (r_field (hF.at 2 rfl) (fa_Plc_0 (p:=0) rfl)) rfl rfl rfl rfl fun a hF=>?_
 refine E.opv hF (r_load (hF.at 0 rfl) (ldb_i64 (v:= .int .i64 (gA 60 120 la lb)) (st.bk 1 rfl) rfl)) rfl rfl rfl rfl fun a hF=>?_
 refine E.opv hF (r_un (hF.at 0 rfl) (bn_neg (by omega) (by omega))) rfl rfl rfl rfl fun a hF=>?_
 refine E.opv hF (r_field (hF.at 3 rfl) (fa_Plc_0 (p:=0) rfl)) rfl rfl rfl rfl fun a hF=>?_
 refine S.stooI (o:=0) (vs:=[.int .i64 (-(gA 60 120 la lb))]) (ws:=[.int .i64 (-(gA 60 120 la lb)),.int .i64 (gB lb),.int .i64 (gA 180 360 lc ld),.int .i64 (gB ld)]) st hF 0 rfl (hF.at 0 rfl) (hF.at 1 rfl) rfl sz_i64 rfl rfl rfl rfl fun w6 a st hF=>?_
 refine E.nil ?_
 refine wp_seq ?_
 refine E.drawn 8 mixed hF [35,36,37,38,39,40,14,15] [(fun _ v=>v= .int .i64 (inD da)),(fun _ v=>v= .agg #[.int .i64 (gA 60 120 la lb),.int .i64 (gB lb),.int .i64 (gA 180 360 lc ld),.int .i64 (gB ld)]),(fun w v=>Rq w v (grainV (dawV (inD da) (gA 60 120 la lb) (gB lb) (gA 180 360 lc ld) (gB ld)))),(fun _ v=>v= .int .i64 (inD da)),(fun _ v=>v= .agg #[.int .i64 (gA 60 120 la lb),.int .i64 (gB lb),.int .i64 (gA 180 360 lc ld),.int .i64 (gB ld)]),(fun w v=>Rq w v (grainV (dusV (inD da) (gA 60 120 la lb) (gB lb) (gA 180 360 lc ld) (gB ld)))),(fun w v=>∃g,v= .pointer (some ⟨g,0,none⟩)∧w6.heap.size≤g∧Own w g [.bool false,.slice none 0 0,.slice none 0 0]),(fun w v=>∃g,v= .pointer (some ⟨g,0,none⟩)∧w6.heap.size≤g∧Own w g [.bool false,.slice none 0 0,.slice none 0 0])] [6,7] (by decide+kernel) (by decide+kernel) rfl rfl rfl ⟨(Mb.eq _),(Mb.eq _),(fun _ _ _ h hb=>h.below hb),(Mb.eq _),(Mb.eq _),(fun _ _ _ h hb=>h.below hb),(fun _ _ _ ⟨g,e,l,o⟩ hb=>⟨g,e,l,o.below hb⟩),(fun _ _ _ ⟨g,e,l,o⟩ hb=>⟨g,e,l,o.below hb⟩),trivial⟩ ⟨fun _ _ ⟨g,e,_,o⟩=>⟨g,e,o.lt⟩,⟨fun _ _ ⟨g,e,_,o⟩=>⟨g,e,o.lt⟩,trivial⟩⟩ ⟨?_,?_,?_,?_,?_,?_,?_,?_,trivial⟩ ?_
 ·intro a' w' hF' hb hd
  exact dv0 (r_move (hF'.at 12 rfl)) rfl rfl rfl
 ·intro a' w' hF' hb hd
  exact dv0 (r_load (hF'.at 6 rfl) (ld_all ty_Plc ((st.bk 1 rfl).below hb) rfl)) rfl rfl rfl
 ·intro a' w' hF' hb hd
  have e35:=sHe hd 0 35 rfl rfl rfl rfl
  have e36:=sHe hd 1 36 rfl rfl rfl rfl
  exact dc0 (r_call Tryz.func34 en34.1 en34.2 (map2 e35 e36)) (reSunrise_any (inD da) (gA 60 120 la lb) (gB lb) (gA 180 360 lc ld) (gB ld) _ (hT.below (below_to st.bel hb)) (by first|assumption|exact⟨by omega,by omega,by omega,by omega,by omega,by omega,by omega,by omega⟩) (by omega) (by omega)) rfl rfl
 ·intro a' w' hF' hb hd
  exact dv0 (r_move (hF'.at 12 rfl)) rfl rfl rfl
 ·intro a' w' hF' hb hd
  exact dv0 (r_load (hF'.at 6 rfl) (ld_all ty_Plc ((st.bk 1 rfl).below hb) rfl)) rfl rfl rfl
 ·intro a' w' hF' hb hd
  have e38:=sHe hd 0 38 rfl rfl rfl rfl
  have e39:=sHe hd 1 39 rfl rfl rfl rfl
  exact dc0 (r_call Tryz.func35 en35.1 en35.2 (map2 e38 e39)) (reSunset_any (inD da) (gA 60 120 la lb) (gB lb) (gA 180 360 lc ld) (gB ld) _ (hT.below (below_to st.bel hb)) (by first|assumption|exact⟨by omega,by omega,by omega,by omega,by omega,by omega,by omega,by omega⟩) (by omega) (by omega)) rfl rfl
 ·intro a' w' hF' hb hd
  exact da0 ty_Rat rfl hb.size rfl
 ·intro a' w' hF' hb hd
  exact da0 ty_Rat rfl hb.size rfl
 intro a w7 hF bb hall hne
 have s0:=st
 replace st:=st.to bb
 obtain⟨vv8,e37,hh9⟩:=sS hall 2 37 rfl rfl
 replace st:=st.add hh9 (Rq.cl _)
 clear hh9
 obtain⟨vv10,e40,hh11⟩:=sS hall 5 40 rfl rfl
 replace st:=st.add hh11 (Rq.cl _)
 clear hh11
 obtain⟨_,e14,g14,rfl,ge14,o14⟩:=sS hall 6 14 rfl rfl
 replace st:=st.push o14.blk (Nat.le_trans s0.bel.size ge14) (s0.ne ge14)
 clear o14
 obtain⟨_,e15,g15,rfl,ge15,o15⟩:=sS hall 7 15 rfl rfl
 replace st:=st.push o15.blk (Nat.le_trans s0.bel.size ge15) (ne_cons (fun(e:g14=g15)=>hne 6 7 14 15 rfl rfl (by decide) rfl rfl (by rw[e14,e15,e])) (s0.ne ge15))
 clear o15
 clear hall hne bb s0
 obtain⟨b12,ad12,n12,c12,ae12,m12,d12,rfl⟩:=Rq.form (st.f 1 rfl)
 replace hF:=hF.add e37
 clear e37
 obtain⟨b13,ad13,n13,c13,ae13,m13,d13,rfl⟩:=Rq.form (st.f 0 rfl)
 replace hF:=hF.add e40
 clear e40
 replace hF:=hF.add e14
 clear e14
 replace hF:=hF.add e15
 clear e15
 refine S.sto st hF 1 rfl (hF.at 1 rfl) (hF.at 3 rfl) ty_Rat rfl rfl rfl rfl fun w14 a st hF=>?_
 refine S.sto st hF 0 rfl (hF.at 0 rfl) (hF.at 2 rfl) ty_Rat rfl rfl rfl rfl fun w15 a st hF=>?_
 refine E.nil ?_
 refine wp_seq ?_
 refine E.drawn 8 mixed hF [41,42,43,44,45,46,16,17] [(fun _ v=>v= .int .i64 (inD da)),(fun _ v=>v= .agg #[.int .i64 (-(gA 60 120 la lb)),.int .i64 (gB lb),.int .i64 (gA 180 360 lc ld),.int .i64 (gB ld)]),(fun w v=>Rq w v (grainV (dawV (inD da) (-(gA 60 120 la lb)) (gB lb) (gA 180 360 lc ld) (gB ld)))),(fun _ v=>v= .int .i64 (inD da)),(fun _ v=>v= .agg #[.int .i64 (-(gA 60 120 la lb)),.int .i64 (gB lb),.int .i64 (gA 180 360 lc ld),.int .i64 (gB ld)]),(fun w v=>Rq w v (grainV (dusV (inD da) (-(gA 60 120 la lb)) (gB lb) (gA 180 360 lc ld) (gB ld)))),(fun w v=>∃g,v= .pointer (some ⟨g,0,none⟩)∧w15.heap.size≤g∧Own w g [.bool false,.slice none 0 0,.slice none 0 0]),(fun w v=>∃g,v= .pointer (some ⟨g,0,none⟩)∧w15.heap.size≤g∧Own w g [.bool false,.slice none 0 0,.slice none 0 0])] [6,7] (by decide+kernel) (by decide+kernel) rfl rfl rfl ⟨(Mb.eq _),(Mb.eq _),(fun _ _ _ h hb=>h.below hb),(Mb.eq _),(Mb.eq _),(fun _ _ _ h hb=>h.below hb),(fun _ _ _ ⟨g,e,l,o⟩ hb=>⟨g,e,l,o.below hb⟩),(fun _ _ _ ⟨g,e,l,o⟩ hb=>⟨g,e,l,o.below hb⟩),trivial⟩ ⟨fun _ _ ⟨g,e,_,o⟩=>⟨g,e,o.lt⟩,⟨fun _ _ ⟨g,e,_,o⟩=>⟨g,e,o.lt⟩,trivial⟩⟩ ⟨?_,?_,?_,?_,?_,?_,?_,?_,trivial⟩ ?_
 ·intro a' w' hF' hb hd
  exact dv0 (r_move (hF'.at 16 rfl)) rfl rfl rfl
 ·intro a' w' hF' hb hd
  exact dv0 (r_load (hF'.at 8 rfl) (ld_all ty_Plc ((st.bk 2 rfl).below hb) rfl)) rfl rfl rfl
 ·intro a' w' hF' hb hd
  have e41:=sHe hd 0 41 rfl rfl rfl rfl
  have e42:=sHe hd 1 42 rfl rfl rfl rfl
  exact dc0 (r_call Tryz.func34 en34.1 en34.2 (map2 e41 e42)) (reSunrise_any (inD da) (-(gA 60 120 la lb)) (gB lb) (gA 180 360 lc ld) (gB ld) _ (hT.below (below_to st.bel hb)) (by first|assumption|exact⟨by omega,by omega,by omega,by omega,by omega,by omega,by omega,by omega⟩) (by omega) (by omega)) rfl rfl
 ·intro a' w' hF' hb hd
  exact dv0 (r_move (hF'.at 16 rfl)) rfl rfl rfl
 ·intro a' w' hF' hb hd
  exact dv0 (r_load (hF'.at 8 rfl) (ld_all ty_Plc ((st.bk 2 rfl).below hb) rfl)) rfl rfl rfl
 ·intro a' w' hF' hb hd
  have e44:=sHe hd 0 44 rfl rfl rfl rfl
  have e45:=sHe hd 1 45 rfl rfl rfl rfl
  exact dc0 (r_call Tryz.func35 en35.1 en35.2 (map2 e44 e45)) (reSunset_any (inD da) (-(gA 60 120 la lb)) (gB lb) (gA 180 360 lc ld) (gB ld) _ (hT.below (below_to st.bel hb)) (by first|assumption|exact⟨by omega,by omega,by omega,by omega,by omega,by omega,by omega,by omega⟩) (by omega) (by omega)) rfl rfl
 ·intro a' w' hF' hb hd
  exact da0 ty_Rat rfl hb.size rfl
 ·intro a' w' hF' hb hd
  exact da0 ty_Rat rfl hb.size rfl
 intro a w16 hF bb hall hne
 have s0:=st
 replace st:=st.to bb
 obtain⟨vv17,e43,hh18⟩:=sS hall 2 43 rfl rfl
 replace st:=st.add hh18 (Rq.cl _)
 clear hh18
 obtain⟨vv19,e46,hh20⟩:=sS hall 5 46 rfl rfl
 replace st:=st.add hh20 (Rq.cl _)
 clear hh20
 obtain⟨_,e16,g16,rfl,ge16,o16⟩:=sS hall 6 16 rfl rfl
 replace st:=st.push o16.blk (Nat.le_trans s0.bel.size ge16) (s0.ne ge16)
 clear o16
 obtain⟨_,e17,g17,rfl,ge17,o17⟩:=sS hall 7 17 rfl rfl
 replace st:=st.push o17.blk (Nat.le_trans s0.bel.size ge17) (ne_cons (fun(e:g16=g17)=>hne 6 7 16 17 rfl rfl (by decide) rfl rfl (by rw[e16,e17,e])) (s0.ne ge17))
 clear o17
 clear hall hne bb s0
 obtain⟨b21,ad21,n21,c21,ae21,m21,d21,rfl⟩:=Rq.form (st.f 1 rfl)
 replace hF:=hF.add e43
 clear e43
 obtain⟨b22,ad22,n22,c22,ae22,m22,d22,rfl⟩:=Rq.form (st.f 0 rfl)
 replace hF:=hF.add e46
 clear e46
 replace hF:=hF.add e16
 clear e16
 replace hF:=hF.add e17
 clear e17
 refine S.sto st hF 1 rfl (hF.at 1 rfl) (hF.at 3 rfl) ty_Rat rfl rfl rfl rfl fun w23 a st hF=>?_
 refine S.sto st hF 0 rfl (hF.at 0 rfl) (hF.at 2 rfl) ty_Rat rfl rfl rfl rfl fun w24 a st hF=>?_
 refine E.nil ?_
 refine wp_seq ?_
 refine E.drawn 8 mixed hF [47,48,49,50,51,52,53,18] [(fun _ v=>v= .agg #[.int .i64 463,.int .i64 20,.int .i64 45461,.int .i64 600]),(fun w v=>Rq w v (((45461:Int):Rat)/((600:Int):Rat))),(fun _ v=>v= .agg #[.int .i64 (gA 60 120 la lb),.int .i64 (gB lb),.int .i64 (gA 180 360 lc ld),.int .i64 (gB ld)]),(fun w v=>Rq w v (((gA 180 360 lc ld:Int):Rat)/((gB ld:Int):Rat))),(fun w v=>Rq w v ((((45461:Int):Rat)/((600:Int):Rat))-(((gA 180 360 lc ld:Int):Rat)/((gB ld:Int):Rat)))),(fun w v=>Rq w v (((360:Int):Rat))),(fun w v=>Rq w v (((((45461:Int):Rat)/((600:Int):Rat))-(((gA 180 360 lc ld:Int):Rat)/((gB ld:Int):Rat)))/(((360:Int):Rat)))),(fun w v=>∃g,v= .pointer (some ⟨g,0,none⟩)∧w24.heap.size≤g∧Own w g [.bool false,.slice none 0 0,.slice none 0 0])] [7] (by decide+kernel) (by decide+kernel) rfl rfl rfl ⟨(Mb.eq _),(fun _ _ _ h hb=>h.below hb),(Mb.eq _),(fun _ _ _ h hb=>h.below hb),(fun _ _ _ h hb=>h.below hb),(fun _ _ _ h hb=>h.below hb),(fun _ _ _ h hb=>h.below hb),(fun _ _ _ ⟨g,e,l,o⟩ hb=>⟨g,e,l,o.below hb⟩),trivial⟩ ⟨fun _ _ ⟨g,e,_,o⟩=>⟨g,e,o.lt⟩,trivial⟩ ⟨?_,?_,?_,?_,?_,?_,?_,?_,trivial⟩ ?_
 ·intro a' w' hF' hb hd
  exact dcx0 (r_call Tryz.func49 en49.1 en49.2 map0) (pUj_any _) (fun _=>rfl) rfl rfl
 ·intro a' w' hF' hb hd
  have e47:=sHe hd 0 47 rfl rfl rfl rfl
  exact dc0 (r_call Tryz.func39 en39.1 en39.2 (map1 e47)) (pLongitude_any 463 20 45461 600 _ (by decide) (by decide) (by decide) (by decide)) rfl rfl
 ·intro a' w' hF' hb hd
  exact dv0 (r_load (hF'.at 14 rfl) (ld_all ty_Plc ((st.bk 5 rfl).below hb) rfl)) rfl rfl rfl
 ·intro a' w' hF' hb hd
  have e49:=sHe hd 0 49 rfl rfl rfl rfl
  exact dc0 (r_call Tryz.func39 en39.1 en39.2 (map1 e49)) (pLongitude_any (gA 60 120 la lb) (gB lb) (gA 180 360 lc ld) (gB ld) _ (by omega) (by omega) (by omega) (by omega)) rfl rfl
 ·intro a' w' hF' hb hd
  obtain⟨v48_0,e48,h48_1⟩:=sH hd 0 48 rfl rfl rfl rfl
  obtain⟨v50_0,e50,h50_1⟩:=sH hd 1 50 rfl rfl rfl rfl
  exact dc0 (r_call Tryz.func36 en36.1 en36.2 (map2 e48 e50)) (rSub_any _ _ _ _ 2 _ h48_1 h50_1 ((lim64q (n:=45461) (d:=600) (by decide) (by decide) (by decide) (by decide)).up _ (by omega)) ((lim64q (n:=gA 180 360 lc ld) (d:=gB ld) (by omega) (by omega) (by omega) (by omega)).up _ (by omega)) (by omega)) rfl rfl
 ·intro a' w' hF' hb hd
  exact dc0 (r_call Tryz.func41 en41.1 en41.2 (map1 ev_c)) (rWhole_any (360) _ (by decide) (by decide)) rfl rfl
 ·intro a' w' hF' hb hd
  obtain⟨v51_0,e51,h51_1⟩:=sH hd 0 51 rfl rfl rfl rfl
  obtain⟨v52_0,e52,h52_1⟩:=sH hd 1 52 rfl rfl rfl rfl
  exact dc0 (r_call Tryz.func40 en40.1 en40.2 (map2 e51 e52)) (rDiv_any _ _ _ _ (max (2+2+1) 2) _ h51_1 h52_1 ((rlim_sub (lim64q (n:=45461) (d:=600) (by decide) (by decide) (by decide) (by decide)) (lim64q (n:=gA 180 360 lc ld) (d:=gB ld) (by omega) (by omega) (by omega) (by omega))).up _ (by omega)) ((rlim_int (limz_64 (by decide) (by decide)) (by omega)).up _ (by omega)) (by omega)) rfl rfl
 ·intro a' w' hF' hb hd
  exact da0 ty_Rat rfl hb.size rfl
 intro a w25 hF bb hall hne
 have s0:=st
 replace st:=st.to bb
 obtain⟨vv26,e53,hh27⟩:=sS hall 6 53 rfl rfl
 replace st:=st.add hh27 (Rq.cl _)
 clear hh27
 obtain⟨_,e18,g18,rfl,ge18,o18⟩:=sS hall 7 18 rfl rfl
 replace st:=st.push o18.blk (Nat.le_trans s0.bel.size ge18) (s0.ne ge18)
 clear o18
 clear hall hne bb s0
 obtain⟨b28,ad28,n28,c28,ae28,m28,d28,rfl⟩:=Rq.form (st.f 0 rfl)
 replace hF:=hF.add e53
 clear e53
 replace hF:=hF.add e18
 clear e18
 refine S.sto st hF 0 rfl (hF.at 0 rfl) (hF.at 1 rfl) ty_Rat rfl rfl rfl rfl fun w29 a st hF=>?_
 refine E.nil ?_
 refine wp_seq ?_
 refine E.drawn 7 mixed hF [54,55,56,57,58,59,19] [(fun _ v=>v= .int .i64 (inD da)),(fun w v=>Rq w v (((inD da:Int):Rat))),(fun w v=>Rq w v (((1:Int):Rat)/((2:Int):Rat))),(fun _ v=>v= .agg #[.bool b28,.slice ad28 n28 c28,.slice ae28 m28 d28]),(fun w v=>QRow w v [((inD da:Int):Rat),((1:Int):Rat)/((2:Int):Rat),((((45461:Int):Rat)/((600:Int):Rat))-(((gA 180 360 lc ld:Int):Rat)/((gB ld:Int):Rat)))/(((360:Int):Rat))]),(fun w v=>Rq w v ((((inD da:Int):Rat))+(((1:Int):Rat)/((2:Int):Rat))+(((((45461:Int):Rat)/((600:Int):Rat))-(((gA 180 360 lc ld:Int):Rat)/((gB ld:Int):Rat)))/(((360:Int):Rat))))),(fun w v=>∃g,v= .pointer (some ⟨g,0,none⟩)∧w29.heap.size≤g∧Own w g [.bool false,.slice none 0 0,.slice none 0 0])] [6] (by decide+kernel) (by decide+kernel) rfl rfl rfl ⟨(Mb.eq _),(fun _ _ _ h hb=>h.below hb),(fun _ _ _ h hb=>h.below hb),(Mb.eq _),(QRow.mono _),(fun _ _ _ h hb=>h.below hb),(fun _ _ _ ⟨g,e,l,o⟩ hb=>⟨g,e,l,o.below hb⟩),trivial⟩ ⟨fun _ _ ⟨g,e,_,o⟩=>⟨g,e,o.lt⟩,trivial⟩ ⟨?_,?_,?_,?_,?_,?_,?_,trivial⟩ ?_
 ·intro a' w' hF' hb hd
  exact dv0 (r_move (hF'.at 22 rfl)) rfl rfl rfl
 ·intro a' w' hF' hb hd
  have e54:=sHe hd 0 54 rfl rfl rfl rfl
  exact dc0 (r_call Tryz.func41 en41.1 en41.2 (map1 e54)) (rWhole_any (inD da) _ (by omega) (by omega)) rfl rfl
 ·intro a' w' hF' hb hd
  exact dc0 (r_call Tryz.func38 en38.1 en38.2 (map2 ev_c ev_c)) (rOf2_any (1) (2) _ (by decide) (by decide) (by decide) (by decide)) rfl rfl
 ·intro a' w' hF' hb hd
  exact dv0 (r_load (hF'.at 0 rfl) (ld_all ty_Rat ((st.bk 0 rfl).below hb) rfl)) rfl rfl rfl
 ·intro a' w' hF' hb hd
  obtain⟨v55_0,e55,h55_1⟩:=sH hd 0 55 rfl rfl rfl rfl
  obtain⟨v56_0,e56,h56_1⟩:=sH hd 1 56 rfl rfl rfl rfl
  have e57:=sHe hd 2 57 rfl rfl rfl rfl
  obtain⟨vq,w2,hr,bb,hq⟩:=bs_rats h55_1 h56_1 ((st.f 0 rfl).below hb)
  exact if_does (wanted_free rfl) (Does.vals (r_buildSlice (pair3 e55 e56 e57) hr) ⟨hq,bb,(fun h=>absurd h (by decide))⟩)
 ·intro a' w' hF' hb hd
  obtain⟨v58_0,e58,h58_1⟩:=sH hd 0 58 rfl rfl rfl rfl
  exact dc0 (r_call Tryz.func50 en50.1 en50.2 (map1 e58)) (rSum3 _ (((inD da:Int):Rat)) (((1:Int):Rat)/((2:Int):Rat)) (((((45461:Int):Rat)/((600:Int):Rat))-(((gA 180 360 lc ld:Int):Rat)/((gB ld:Int):Rat)))/(((360:Int):Rat))) (max 2 ((2+2+1)+2)) _ h58_1 ((rlim_int (limz_64 (by omega) (by omega)) (by omega)).up _ (by omega)) ((RLim.up (rlim_mk2 (limz_64 (by decide) (by decide)) (limz_64 (by decide) (by decide))) 2 (by decide)).up _ (by omega)) ((rlim_div (rlim_sub (lim64q (n:=45461) (d:=600) (by decide) (by decide) (by decide) (by decide)) (lim64q (n:=gA 180 360 lc ld) (d:=gB ld) (by omega) (by omega) (by omega) (by omega))) (rlim_int (limz_64 (by decide) (by decide)) (by omega))).up _ (by omega)) (by omega)) rfl rfl
 ·intro a' w' hF' hb hd
  exact da0 ty_Rat rfl hb.size rfl
 intro a w30 hF bb hall hne
 have s0:=st
 replace st:=st.to bb
 obtain⟨vv31,e59,hh32⟩:=sS hall 5 59 rfl rfl
 replace st:=st.add hh32 (Rq.cl _)
 clear hh32
 obtain⟨_,e19,g19,rfl,ge19,o19⟩:=sS hall 6 19 rfl rfl
 replace st:=st.push o19.blk (Nat.le_trans s0.bel.size ge19) (s0.ne ge19)
 clear o19
 clear hall hne bb s0
 obtain⟨b33,ad33,n33,c33,ae33,m33,d33,rfl⟩:=Rq.form (st.f 0 rfl)
 replace hF:=hF.add e59
 clear e59
 replace hF:=hF.add e19
 clear e19
 refine S.sto st hF 0 rfl (hF.at 0 rfl) (hF.at 1 rfl) ty_Rat rfl rfl rfl rfl fun w34 a st hF=>?_
 refine E.nil ?_
 refine wp_seq ?_
 refine wp_seq ?_
 refine E.drawn 11 mixed hF [60,61,62,63,64,65,66,67,68,69,70] [(fun _ v=>v= .agg #[.bool b12,.slice ad12 n12 c12,.slice ae12 m12 d12]),(fun _ v=>v= .agg #[.bool b13,.slice ad13 n13 c13,.slice ae13 m13 d13]),(fun w v=>Rq w v ((grainV (dawV (inD da) (gA 60 120 la lb) (gB lb) (gA 180 360 lc ld) (gB ld)))+(grainV (dusV (inD da) (gA 60 120 la lb) (gB lb) (gA 180 360 lc ld) (gB ld))))),(fun w v=>Rq w v (((1:Int):Rat)/((2:Int):Rat))),(fun w v=>Rq w v (((grainV (dawV (inD da) (gA 60 120 la lb) (gB lb) (gA 180 360 lc ld) (gB ld)))+(grainV (dusV (inD da) (gA 60 120 la lb) (gB lb) (gA 180 360 lc ld) (gB ld))))*(((1:Int):Rat)/((2:Int):Rat)))),(fun _ v=>v= .agg #[.bool b33,.slice ad33 n33 c33,.slice ae33 m33 d33]),(fun w v=>Rq w v ((((grainV (dawV (inD da) (gA 60 120 la lb) (gB lb) (gA 180 360 lc ld) (gB ld)))+(grainV (dusV (inD da) (gA 60 120 la lb) (gB lb) (gA 180 360 lc ld) (gB ld))))*(((1:Int):Rat)/((2:Int):Rat)))-((((inD da:Int):Rat))+(((1:Int):Rat)/((2:Int):Rat))+(((((45461:Int):Rat)/((600:Int):Rat))-(((gA 180 360 lc ld:Int):Rat)/((gB ld:Int):Rat)))/(((360:Int):Rat)))))),(fun w v=>Rq w v (Rat.abs ((((grainV (dawV (inD da) (gA 60 120 la lb) (gB lb) (gA 180 360 lc ld) (gB ld)))+(grainV (dusV (inD da) (gA 60 120 la lb) (gB lb) (gA 180 360 lc ld) (gB ld))))*(((1:Int):Rat)/((2:Int):Rat)))-((((inD da:Int):Rat))+(((1:Int):Rat)/((2:Int):Rat))+(((((45461:Int):Rat)/((600:Int):Rat))-(((gA 180 360 lc ld:Int):Rat)/((gB ld:Int):Rat)))/(((360:Int):Rat))))))),(fun w v=>Rq w v (((1:Int):Rat)/((100:Int):Rat))),(fun _ v=>v= .int .i64 (qc (Rat.abs ((((grainV (dawV (inD da) (gA 60 120 la lb) (gB lb) (gA 180 360 lc ld) (gB ld)))+(grainV (dusV (inD da) (gA 60 120 la lb) (gB lb) (gA 180 360 lc ld) (gB ld))))*(((1:Int):Rat)/((2:Int):Rat)))-((((inD da:Int):Rat))+(((1:Int):Rat)/((2:Int):Rat))+(((((45461:Int):Rat)/((600:Int):Rat))-(((gA 180 360 lc ld:Int):Rat)/((gB ld:Int):Rat)))/(((360:Int):Rat)))))) (((1:Int):Rat)/((100:Int):Rat)))),(fun _ v=>v= .bool false)] [] (by decide+kernel) (by decide+kernel) rfl rfl rfl ⟨(Mb.eq _),(Mb.eq _),(fun _ _ _ h hb=>h.below hb),(fun _ _ _ h hb=>h.below hb),(fun _ _ _ h hb=>h.below hb),(Mb.eq _),(fun _ _ _ h hb=>h.below hb),(fun _ _ _ h hb=>h.below hb),(fun _ _ _ h hb=>h.below hb),(Mb.eq _),(Mb.eq _),trivial⟩ trivial ⟨?_,?_,?_,?_,?_,?_,?_,?_,?_,?_,?_,trivial⟩ ?_
 ·intro a' w' hF' hb hd
  exact dv0 (r_load (hF'.at 9 rfl) (ld_all ty_Rat ((st.bk 5 rfl).below hb) rfl)) rfl rfl rfl
 ·intro a' w' hF' hb hd
  exact dv0 (r_load (hF'.at 8 rfl) (ld_all ty_Rat ((st.bk 4 rfl).below hb) rfl)) rfl rfl rfl
 ·intro a' w' hF' hb hd
  have e60:=sHe hd 0 60 rfl rfl rfl rfl
  have e61:=sHe hd 1 61 rfl rfl rfl rfl
  exact dc0 (r_call Tryz.func51 en51.1 en51.2 (map2 e60 e61)) (rAdd_any _ _ _ _ 3 _ ((st.f 5 rfl).below hb) ((st.f 4 rfl).below hb) ((sunr_lim (by first|assumption|exact⟨by omega,by omega,by omega,by omega,by omega,by omega,by omega,by omega⟩) (by omega) (by omega)).up _ (by omega)) ((suns_lim (by first|assumption|exact⟨by omega,by omega,by omega,by omega,by omega,by omega,by omega,by omega⟩) (by omega) (by omega)).up _ (by omega)) (by omega)) rfl rfl
 ·intro a' w' hF' hb hd
  exact dc0 (r_call Tryz.func38 en38.1 en38.2 (map2 ev_c ev_c)) (rOf2_any (1) (2) _ (by decide) (by decide) (by decide) (by decide)) rfl rfl
 ·intro a' w' hF' hb hd
  obtain⟨v62_0,e62,h62_1⟩:=sH hd 0 62 rfl rfl rfl rfl
  obtain⟨v63_0,e63,h63_1⟩:=sH hd 1 63 rfl rfl rfl rfl
  exact dc0 (r_call Tryz.func52 en52.1 en52.2 (map2 e62 e63)) (rMul_any _ _ _ _ (max (3+3+1) 2) _ h62_1 h63_1 ((rlim_add (sunr_lim (by first|assumption|exact⟨by omega,by omega,by omega,by omega,by omega,by omega,by omega,by omega⟩) (by omega) (by omega)) (suns_lim (by first|assumption|exact⟨by omega,by omega,by omega,by omega,by omega,by omega,by omega,by omega⟩) (by omega) (by omega))).up _ (by omega)) ((RLim.up (rlim_mk2 (limz_64 (by decide) (by decide)) (limz_64 (by decide) (by decide))) 2 (by decide)).up _ (by omega)) (by omega)) rfl rfl
 ·intro a' w' hF' hb hd
  exact dv0 (r_load (hF'.at 0 rfl) (ld_all ty_Rat ((st.bk 0 rfl).below hb) rfl)) rfl rfl rfl
 ·intro a' w' hF' hb hd
  obtain⟨v64_0,e64,h64_1⟩:=sH hd 0 64 rfl rfl rfl rfl
  have e65:=sHe hd 1 65 rfl rfl rfl rfl
  exact dc0 (r_call Tryz.func36 en36.1 en36.2 (map2 e64 e65)) (rSub_any _ _ _ _ (max ((3+3+1)+2) ((2+2+1)+((2+2+1)+2)+1)) _ h64_1 ((st.f 0 rfl).below hb) ((rlim_mul (rlim_add (sunr_lim (by first|assumption|exact⟨by omega,by omega,by omega,by omega,by omega,by omega,by omega,by omega⟩) (by omega) (by omega)) (suns_lim (by first|assumption|exact⟨by omega,by omega,by omega,by omega,by omega,by omega,by omega,by omega⟩) (by omega) (by omega))) (RLim.up (rlim_mk2 (limz_64 (by decide) (by decide)) (limz_64 (by decide) (by decide))) 2 (by decide))).up _ (by omega)) ((rlim_add (rlim_add (rlim_int (limz_64 (by omega) (by omega)) (by omega)) (RLim.up (rlim_mk2 (limz_64 (by decide) (by decide)) (limz_64 (by decide) (by decide))) 2 (by decide))) (rlim_div (rlim_sub (lim64q (n:=45461) (d:=600) (by decide) (by decide) (by decide) (by decide)) (lim64q (n:=gA 180 360 lc ld) (d:=gB ld) (by omega) (by omega) (by omega) (by omega))) (rlim_int (limz_64 (by decide) (by decide)) (by omega)))).up _ (by omega)) (by omega)) rfl rfl
 ·intro a' w' hF' hb hd
  obtain⟨v66_0,e66,h66_1⟩:=sH hd 0 66 rfl rfl rfl rfl
  exact dc0 (r_call Tryz.func53 en53.1 en53.2 (map1 e66)) (rAbs_any _ _ _ h66_1) rfl rfl
 ·intro a' w' hF' hb hd
  exact dc0 (r_call Tryz.func38 en38.1 en38.2 (map2 ev_c ev_c)) (rOf2_any (1) (100) _ (by decide) (by decide) (by decide) (by decide)) rfl rfl
 ·intro a' w' hF' hb hd
  obtain⟨v67_0,e67,h67_1⟩:=sH hd 0 67 rfl rfl rfl rfl
  obtain⟨v68_0,e68,h68_1⟩:=sH hd 1 68 rfl rfl rfl rfl
  exact dcx0 (r_call Tryz.func37 en37.1 en37.2 (map2 e67 e68)) (rCmp_any _ _ _ _ (max (((3+3+1)+2)+((2+2+1)+((2+2+1)+2)+1)+1) 2) _ h67_1 h68_1 ((rlim_abs (rlim_sub (rlim_mul (rlim_add (sunr_lim (by first|assumption|exact⟨by omega,by omega,by omega,by omega,by omega,by omega,by omega,by omega⟩) (by omega) (by omega)) (suns_lim (by first|assumption|exact⟨by omega,by omega,by omega,by omega,by omega,by omega,by omega,by omega⟩) (by omega) (by omega))) (RLim.up (rlim_mk2 (limz_64 (by decide) (by decide)) (limz_64 (by decide) (by decide))) 2 (by decide))) (rlim_add (rlim_add (rlim_int (limz_64 (by omega) (by omega)) (by omega)) (RLim.up (rlim_mk2 (limz_64 (by decide) (by decide)) (limz_64 (by decide) (by decide))) 2 (by decide))) (rlim_div (rlim_sub (lim64q (n:=45461) (d:=600) (by decide) (by decide) (by decide) (by decide)) (lim64q (n:=gA 180 360 lc ld) (d:=gB ld) (by omega) (by omega) (by omega) (by omega))) (rlim_int (limz_64 (by decide) (by decide)) (by omega)))))).up _ (by omega)) ((RLim.up (rlim_mk2 (limz_64 (by decide) (by decide)) (limz_64 (by decide) (by decide))) 2 (by decide)).up _ (by omega)) (by omega)) (fun _=>rfl) rfl rfl
 ·intro a' w' hF' hb hd
  have e69:=sHe hd 0 69 rfl rfl rfl rfl
  exact dv0 (r_bin e69 ev_c eg_scalar (bi_int (ic_gtr (c:=false) (dec_ff (qc_no (noon_ok (by assumption)).1))) (by simp))) rfl rfl rfl
 intro a w35 hF bb hall hne
 replace st:=st.to bb
 have e70:=sSe hall 10 70 rfl rfl
 clear hall hne bb
 replace hF:=hF.add e70
 clear e70
 refine E.nil ?_
 refine wp_cond_false (hF.at 0 rfl) ?_
 refine wp_skip ?_
 refine E.norm ?_
 refine wp_seq ?_
 refine E.drawn 8 mixed hF [71,72,73,74,75,76,77,20] [(fun _ v=>v= .agg #[.bool b13,.slice ad13 n13 c13,.slice ae13 m13 d13]),(fun _ v=>v= .agg #[.bool b12,.slice ad12 n12 c12,.slice ae12 m12 d12]),(fun w v=>Rq w v ((grainV (dusV (inD da) (gA 60 120 la lb) (gB lb) (gA 180 360 lc ld) (gB ld)))-(grainV (dawV (inD da) (gA 60 120 la lb) (gB lb) (gA 180 360 lc ld) (gB ld))))),(fun _ v=>v= .agg #[.bool b22,.slice ad22 n22 c22,.slice ae22 m22 d22]),(fun _ v=>v= .agg #[.bool b21,.slice ad21 n21 c21,.slice ae21 m21 d21]),(fun w v=>Rq w v ((grainV (dusV (inD da) (-(gA 60 120 la lb)) (gB lb) (gA 180 360 lc ld) (gB ld)))-(grainV (dawV (inD da) (-(gA 60 120 la lb)) (gB lb) (gA 180 360 lc ld) (gB ld))))),(fun w v=>Rq w v (((grainV (dusV (inD da) (gA 60 120 la lb) (gB lb) (gA 180 360 lc ld) (gB ld)))-(grainV (dawV (inD da) (gA 60 120 la lb) (gB lb) (gA 180 360 lc ld) (gB ld))))+((grainV (dusV (inD da) (-(gA 60 120 la lb)) (gB lb) (gA 180 360 lc ld) (gB ld)))-(grainV (dawV (inD da) (-(gA 60 120 la lb)) (gB lb) (gA 180 360 lc ld) (gB ld)))))),(fun w v=>∃g,v= .pointer (some ⟨g,0,none⟩)∧w35.heap.size≤g∧Own w g [.bool false,.slice none 0 0,.slice none 0 0])] [7] (by decide+kernel) (by decide+kernel) rfl rfl rfl ⟨(Mb.eq _),(Mb.eq _),(fun _ _ _ h hb=>h.below hb),(Mb.eq _),(Mb.eq _),(fun _ _ _ h hb=>h.below hb),(fun _ _ _ h hb=>h.below hb),(fun _ _ _ ⟨g,e,l,o⟩ hb=>⟨g,e,l,o.below hb⟩),trivial⟩ ⟨fun _ _ ⟨g,e,_,o⟩=>⟨g,e,o.lt⟩,trivial⟩ ⟨?_,?_,?_,?_,?_,?_,?_,?_,trivial⟩ ?_
 ·intro a' w' hF' hb hd
  exact dv0 (r_load (hF'.at 9 rfl) (ld_all ty_Rat ((st.bk 4 rfl).below hb) rfl)) rfl rfl rfl
 ·intro a' w' hF' hb hd
  exact dv0 (r_load (hF'.at 10 rfl) (ld_all ty_Rat ((st.bk 5 rfl).below hb) rfl)) rfl rfl rfl
 ·intro a' w' hF' hb hd
  have e71:=sHe hd 0 71 rfl rfl rfl rfl
  have e72:=sHe hd 1 72 rfl rfl rfl rfl
  exact dc0 (r_call Tryz.func36 en36.1 en36.2 (map2 e71 e72)) (rSub_any _ _ _ _ 3 _ ((st.f 4 rfl).below hb) ((st.f 5 rfl).below hb) ((suns_lim (by first|assumption|exact⟨by omega,by omega,by omega,by omega,by omega,by omega,by omega,by omega⟩) (by omega) (by omega)).up _ (by omega)) ((sunr_lim (by first|assumption|exact⟨by omega,by omega,by omega,by omega,by omega,by omega,by omega,by omega⟩) (by omega) (by omega)).up _ (by omega)) (by omega)) rfl rfl
 ·intro a' w' hF' hb hd
  exact dv0 (r_load (hF'.at 5 rfl) (ld_all ty_Rat ((st.bk 2 rfl).below hb) rfl)) rfl rfl rfl
 ·intro a' w' hF' hb hd
  exact dv0 (r_load (hF'.at 6 rfl) (ld_all ty_Rat ((st.bk 3 rfl).below hb) rfl)) rfl rfl rfl
 ·intro a' w' hF' hb hd
  have e74:=sHe hd 0 74 rfl rfl rfl rfl
  have e75:=sHe hd 1 75 rfl rfl rfl rfl
  exact dc0 (r_call Tryz.func36 en36.1 en36.2 (map2 e74 e75)) (rSub_any _ _ _ _ 3 _ ((st.f 2 rfl).below hb) ((st.f 3 rfl).below hb) ((suns_lim (by first|assumption|exact⟨by omega,by omega,by omega,by omega,by omega,by omega,by omega,by omega⟩) (by omega) (by omega)).up _ (by omega)) ((sunr_lim (by first|assumption|exact⟨by omega,by omega,by omega,by omega,by omega,by omega,by omega,by omega⟩) (by omega) (by omega)).up _ (by omega)) (by omega)) rfl rfl
 ·intro a' w' hF' hb hd
  obtain⟨v73_0,e73,h73_1⟩:=sH hd 0 73 rfl rfl rfl rfl
  obtain⟨v76_0,e76,h76_1⟩:=sH hd 1 76 rfl rfl rfl rfl
  exact dc0 (r_call Tryz.func51 en51.1 en51.2 (map2 e73 e76)) (rAdd_any _ _ _ _ (3+3+1) _ h73_1 h76_1 ((rlim_sub (suns_lim (by first|assumption|exact⟨by omega,by omega,by omega,by omega,by omega,by omega,by omega,by omega⟩) (by omega) (by omega)) (sunr_lim (by first|assumption|exact⟨by omega,by omega,by omega,by omega,by omega,by omega,by omega,by omega⟩) (by omega) (by omega))).up _ (by omega)) ((rlim_sub (suns_lim (by first|assumption|exact⟨by omega,by omega,by omega,by omega,by omega,by omega,by omega,by omega⟩) (by omega) (by omega)) (sunr_lim (by first|assumption|exact⟨by omega,by omega,by omega,by omega,by omega,by omega,by omega,by omega⟩) (by omega) (by omega))).up _ (by omega)) (by omega)) rfl rfl
 ·intro a' w' hF' hb hd
  exact da0 ty_Rat rfl hb.size rfl
 intro a w36 hF bb hall hne
 have s0:=st
 replace st:=st.to bb
 obtain⟨vv37,e77,hh38⟩:=sS hall 6 77 rfl rfl
 replace st:=st.add hh38 (Rq.cl _)
 clear hh38
 obtain⟨_,e20,g20,rfl,ge20,o20⟩:=sS hall 7 20 rfl rfl
 replace st:=st.push o20.blk (Nat.le_trans s0.bel.size ge20) (s0.ne ge20)
 clear o20
 clear hall hne bb s0
 obtain⟨b39,ad39,n39,c39,ae39,m39,d39,rfl⟩:=Rq.form (st.f 0 rfl)
 replace hF:=hF.add e77
 clear e77
 replace hF:=hF.add e20
 clear e20
 refine S.sto st hF 0 rfl (hF.at 0 rfl) (hF.at 1 rfl) ty_Rat rfl rfl rfl rfl fun w40 a st hF=>?_
 refine E.nil ?_
 refine wp_seq ?_
 refine E.drawn 7 mixed hF [78,79,80,81,82,83,84] [(fun _ v=>v= .agg #[.bool b39,.slice ad39 n39 c39,.slice ae39 m39 d39]),(fun w v=>Rq w v (((1:Int):Rat))),(fun w v=>Rq w v ((((grainV (dusV (inD da) (gA 60 120 la lb) (gB lb) (gA 180 360 lc ld) (gB ld)))-(grainV (dawV (inD da) (gA 60 120 la lb) (gB lb) (gA 180 360 lc ld) (gB ld))))+((grainV (dusV (inD da) (-(gA 60 120 la lb)) (gB lb) (gA 180 360 lc ld) (gB ld)))-(grainV (dawV (inD da) (-(gA 60 120 la lb)) (gB lb) (gA 180 360 lc ld) (gB ld)))))-(((1:Int):Rat)))),(fun w v=>Rq w v (Rat.abs ((((grainV (dusV (inD da) (gA 60 120 la lb) (gB lb) (gA 180 360 lc ld) (gB ld)))-(grainV (dawV (inD da) (gA 60 120 la lb) (gB lb) (gA 180 360 lc ld) (gB ld))))+((grainV (dusV (inD da) (-(gA 60 120 la lb)) (gB lb) (gA 180 360 lc ld) (gB ld)))-(grainV (dawV (inD da) (-(gA 60 120 la lb)) (gB lb) (gA 180 360 lc ld) (gB ld)))))-(((1:Int):Rat))))),(fun w v=>Rq w v (((1:Int):Rat)/((300:Int):Rat))),(fun _ v=>v= .int .i64 (qc (Rat.abs ((((grainV (dusV (inD da) (gA 60 120 la lb) (gB lb) (gA 180 360 lc ld) (gB ld)))-(grainV (dawV (inD da) (gA 60 120 la lb) (gB lb) (gA 180 360 lc ld) (gB ld))))+((grainV (dusV (inD da) (-(gA 60 120 la lb)) (gB lb) (gA 180 360 lc ld) (gB ld)))-(grainV (dawV (inD da) (-(gA 60 120 la lb)) (gB lb) (gA 180 360 lc ld) (gB ld)))))-(((1:Int):Rat)))) (((1:Int):Rat)/((300:Int):Rat)))),(fun _ v=>v= .bool true)] [] (by decide+kernel) (by decide+kernel) rfl rfl rfl ⟨(Mb.eq _),(fun _ _ _ h hb=>h.below hb),(fun _ _ _ h hb=>h.below hb),(fun _ _ _ h hb=>h.below hb),(fun _ _ _ h hb=>h.below hb),(Mb.eq _),(Mb.eq _),trivial⟩ trivial ⟨?_,?_,?_,?_,?_,?_,?_,trivial⟩ ?_
 ·intro a' w' hF' hb hd
  exact dv0 (r_load (hF'.at 0 rfl) (ld_all ty_Rat ((st.bk 0 rfl).below hb) rfl)) rfl rfl rfl
 ·intro a' w' hF' hb hd
  exact dc0 (r_call Tryz.func41 en41.1 en41.2 (map1 ev_c)) (rWhole_any (1) _ (by decide) (by decide)) rfl rfl
 ·intro a' w' hF' hb hd
  have e78:=sHe hd 0 78 rfl rfl rfl rfl
  obtain⟨v79_0,e79,h79_1⟩:=sH hd 1 79 rfl rfl rfl rfl
  exact dc0 (r_call Tryz.func36 en36.1 en36.2 (map2 e78 e79)) (rSub_any _ _ _ _ (max ((3+3+1)+(3+3+1)+1) 2) _ ((st.f 0 rfl).below hb) h79_1 ((rlim_add (rlim_sub (suns_lim (by first|assumption|exact⟨by omega,by omega,by omega,by omega,by omega,by omega,by omega,by omega⟩) (by omega) (by omega)) (sunr_lim (by first|assumption|exact⟨by omega,by omega,by omega,by omega,by omega,by omega,by omega,by omega⟩) (by omega) (by omega))) (rlim_sub (suns_lim (by first|assumption|exact⟨by omega,by omega,by omega,by omega,by omega,by omega,by omega,by omega⟩) (by omega) (by omega)) (sunr_lim (by first|assumption|exact⟨by omega,by omega,by omega,by omega,by omega,by omega,by omega,by omega⟩) (by omega) (by omega)))).up _ (by omega)) ((rlim_int (limz_64 (by decide) (by decide)) (by omega)).up _ (by omega)) (by omega)) rfl rfl
 ·intro a' w' hF' hb hd
  obtain⟨v80_0,e80,h80_1⟩:=sH hd 0 80 rfl rfl rfl rfl
  exact dc0 (r_call Tryz.func53 en53.1 en53.2 (map1 e80)) (rAbs_any _ _ _ h80_1) rfl rfl
 ·intro a' w' hF' hb hd
  exact dc0 (r_call Tryz.func38 en38.1 en38.2 (map2 ev_c ev_c)) (rOf2_any (1) (300) _ (by decide) (by decide) (by decide) (by decide)) rfl rfl
 ·intro a' w' hF' hb hd
  obtain⟨v81_0,e81,h81_1⟩:=sH hd 0 81 rfl rfl rfl rfl
  obtain⟨v82_0,e82,h82_1⟩:=sH hd 1 82 rfl rfl rfl rfl
  exact dcx0 (r_call Tryz.func37 en37.1 en37.2 (map2 e81 e82)) (rCmp_any _ _ _ _ (max (((3+3+1)+(3+3+1)+1)+2+1) 2) _ h81_1 h82_1 ((rlim_abs (rlim_sub (rlim_add (rlim_sub (suns_lim (by first|assumption|exact⟨by omega,by omega,by omega,by omega,by omega,by omega,by omega,by omega⟩) (by omega) (by omega)) (sunr_lim (by first|assumption|exact⟨by omega,by omega,by omega,by omega,by omega,by omega,by omega,by omega⟩) (by omega) (by omega))) (rlim_sub (suns_lim (by first|assumption|exact⟨by omega,by omega,by omega,by omega,by omega,by omega,by omega,by omega⟩) (by omega) (by omega)) (sunr_lim (by first|assumption|exact⟨by omega,by omega,by omega,by omega,by omega,by omega,by omega,by omega⟩) (by omega) (by omega)))) (rlim_int (limz_64 (by decide) (by decide)) (by omega)))).up _ (by omega)) ((RLim.up (rlim_mk2 (limz_64 (by decide) (by decide)) (limz_64 (by decide) (by decide))) 2 (by decide)).up _ (by omega)) (by omega)) (fun _=>rfl) rfl rfl
 ·intro a' w' hF' hb hd
  have e83:=sHe hd 0 83 rfl rfl rfl rfl
  exact dv0 (r_bin e83 ev_c eg_scalar (bi_int (ic_leq (c:=true) (dec_tt (qc_le0t14 (noon_ok (by assumption)).2))) (by simp))) rfl rfl rfl
 intro a w41 hF bb hall hne
 replace st:=st.to bb
 have e84:=sSe hall 6 84 rfl rfl
 clear hall hne bb
 replace hF:=hF.add e84
 clear e84
 refine E.opset (L':=[(10,.bool true),(84,.bool true),(20,.pointer (some ⟨g20,0,none⟩)),(77,.agg #[.bool b39,.slice ad39 n39 c39,.slice ae39 m39 d39]),(70,.bool false),(19,.pointer (some ⟨g19,0,none⟩)),(59,.agg #[.bool b33,.slice ad33 n33 c33,.slice ae33 m33 d33]),(18,.pointer (some ⟨g18,0,none⟩)),(53,.agg #[.bool b28,.slice ad28 n28 c28,.slice ae28 m28 d28]),(17,.pointer (some ⟨g17,0,none⟩)),(16,.pointer (some ⟨g16,0,none⟩)),(46,.agg #[.bool b22,.slice ad22 n22 c22,.slice ae22 m22 d22]),(43,.agg #[.bool b21,.slice ad21 n21 c21,.slice ae21 m21 d21]),(15,.pointer (some ⟨g15,0,none⟩)),(14,.pointer (some ⟨g14,0,none⟩)),(40,.agg #[.bool b13,.slice ad13 n13 c13,.slice ae13 m13 d13]),(37,.agg #[.bool b12,.slice ad12 n12 c12,.slice ae12 m12 d12]),(34,.pointer (some ⟨g13,0,none⟩)),(33,.int .i64 (-(gA 60 120 la lb))),(32,.int .i64 (gA 60 120 la lb)),(31,.pointer (some ⟨g12,0,none⟩)),(13,.pointer (some ⟨g13,0,none⟩)),(30,.agg #[.int .i64 (gA 60 120 la lb),.int .i64 (gB lb),.int .i64 (gA 180 360 lc ld),.int .i64 (gB ld)]),(12,.pointer (some ⟨g12,0,none⟩)),(29,.agg #[.int .i64 (gA 60 120 la lb),.int .i64 (gB lb),.int .i64 (gA 180 360 lc ld),.int .i64 (gB ld)]),(28,.int .i64 ld),(27,.int .i64 lc),(26,.int .i64 lb),(25,.int .i64 la),(11,.int .i64 (inD da)),(24,.int .i64 (inD da)),(23,.int .i64 da),(22,.bool false),(21,.bool true),(0,.int .i64 da),(1,.int .i64 la),(2,.int .i64 lb),(3,.int .i64 lc),(4,.int .i64 ld)]) hF (r_assign (hF.at 0 rfl)) rfl rfl rfl rfl fun a hF=>?_
 refine E.nil ?_
 refine wp_ret ?_
 have bel:=st.bel
 refine bodyPost_ret (res_tmp Tryz.results8 (hF.at 0 rfl)) hF.dfr ?_
 exact⟨rfl,bel⟩
end Go.Proofs.YtpkhdajnppoinaaGreatDoor
