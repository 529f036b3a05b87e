import Derived.Test.YtpkhdajnppoinaaGreatDoorKB42
import Derived.Test.YtpkhdajnppoinaaGreatDoorKB43
namespace Go.Proofs.YtpkhdajnppoinaaGreatDoor
open Go.RowKit
set_option maxRecDepth 100000
set_option linter.unusedVariables false
set_option maxHeartbeats 8000000
theorem riseParts_walk (nega1:Bool) (aa1:Option Addr) (na1 ca1:Nat) (xa1:List Nat) (negb1:Bool) (ab1:Option Addr) (nb1 cb1:Nat) (xb1:List Nat) (la lb:Int) (w:World) (hT:TabD w) (ia1:InX w aa1 na1 ca1 xa1) (ib1:InX w ab1 nb1 cb1 xb1):
 Calls Tryz.prog 3 #[.agg #[.bool nega1,.slice aa1 na1 ca1,.bool negb1,.slice ab1 nb1 cb1],.int .i64 la,.int .i64 lb] w (ValPost w (.bool true)):=by
 have oka1:=ia1.ok
 have okb1:=ib1.ok
 have st:=St.start w
 refine E.enter (nt:=75) (L:=[(0,.agg #[.bool nega1,.slice aa1 na1 ca1,.bool negb1,.slice ab1 nb1 cb1]),(1,.int .i64 la),(2,.int .i64 lb)]) Tryz.func3 rfl rfl rfl (args_cons (i:=0) rfl (args_cons (i:=1) rfl (args_cons (i:=2) rfl args_nil))) ?_
 intro a hF
 refine wp_seq ?_
 refine E.seq ?_
 refine S.box st hF (hF.at 0 rfl) rfl rfl fun g3 w1 a st hF=>?_
 refine E.opv hF (r_assign ev_c) rfl rfl rfl rfl fun a hF=>?_
 refine E.nil ?_
 refine wp_seq ?_
 refine wp_seq ?_
 refine E.seq ?_
 refine S.callx st hF (r_call Tryz.func9 en9.1 en9.2 map0) (awake14_any _ (hT.below st.bel)) rfl rfl rfl rfl fun w2 a st hF=>?_
 refine E.opv hF (r_un (hF.at 0 rfl) (bn_not _ false rfl)) rfl rfl rfl rfl fun a hF=>?_
 refine E.nil ?_
 refine wp_cond_false (hF.at 0 rfl) ?_
 refine wp_skip ?_
 refine E.norm ?_
 refine wp_seq ?_
 refine E.drawn 6 mixed hF [12,13,14,15,7,8] [(fun _ v=>v= .agg #[.bool nega1,.slice aa1 na1 ca1,.bool negb1,.slice ab1 nb1 cb1]),(fun w v=>Rq w v (((rawZ nega1 xa1 2:Int):Rat)/((rawZ negb1 xb1 2:Int):Rat))),(fun _ v=>v= .agg #[.bool nega1,.slice aa1 na1 ca1,.bool negb1,.slice ab1 nb1 cb1]),(fun w v=>Rr w v (((rawZ nega1 xa1 2:Int):Rat)/((rawZ negb1 xb1 2:Int):Rat)) (2)),(fun w v=>∃g,v= .pointer (some ⟨g,0,none⟩)∧w2.heap.size≤g∧Own w g [.bool false,.slice none 0 0,.slice none 0 0]),(fun w v=>∃g,v= .pointer (some ⟨g,0,none⟩)∧w2.heap.size≤g∧Own w g [.bool false,.slice none 0 0,.slice none 0 0])] [4,5] (by decide+kernel) (by decide+kernel) rfl rfl rfl ⟨(Mb.eq _),(fun _ _ _ h hb=>h.below hb),(Mb.eq _),(fun _ _ _ h hb=>h.below hb),(fun _ _ _ ⟨g,e,l,o⟩ hb=>⟨g,e,l,o.below hb⟩),(fun _ _ _ ⟨g,e,l,o⟩ hb=>⟨g,e,l,o.below hb⟩),trivial⟩ ⟨fun _ _ ⟨g,e,_,o⟩=>⟨g,e,o.lt⟩,⟨fun _ _ ⟨g,e,_,o⟩=>⟨g,e,o.lt⟩,trivial⟩⟩ ⟨?_,?_,?_,?_,?_,?_,trivial⟩ ?_
 ·intro a' w' hF' hb hd
  exact dv0 (r_load (hF'.at 3 rfl) (ld_all ty_Raw5 ((st.bk 0 rfl).below hb) rfl)) rfl rfl rfl
 ·intro a' w' hF' hb hd
  have e12:=sHe hd 0 12 rfl rfl rfl rfl
  exact dc0 (r_call Tryz.func10 en10.1 en10.2 (map2 e12 ev_c)) (Own5_any nega1 aa1 na1 ca1 xa1 negb1 ab1 nb1 cb1 xb1 2 _ (ia1.below (below_to st.bel hb)) (ib1.below (below_to st.bel hb)) (by omega)) rfl rfl
 ·intro a' w' hF' hb hd
  exact dv0 (r_load (hF'.at 3 rfl) (ld_all ty_Raw5 ((st.bk 0 rfl).below hb) rfl)) rfl rfl rfl
 ·intro a' w' hF' hb hd
  have e14:=sHe hd 0 14 rfl rfl rfl rfl
  exact dc0 (r_call Tryz.func11 en11.1 en11.2 (map2 e14 ev_c)) (Told5_any nega1 aa1 na1 ca1 xa1 negb1 ab1 nb1 cb1 xb1 2 _ (ia1.below (below_to st.bel hb)) (ib1.below (below_to st.bel hb)) (by omega) (by omega)) rfl rfl
 ·intro a' w' hF' hb hd
  exact da0 ty_Rat rfl hb.size rfl
 ·intro a' w' hF' hb hd
  exact da0 ty_RRat rfl hb.size rfl
 intro a w3 hF bb hall hne
 have s0:=st
 replace st:=st.to bb
 obtain⟨vv4,e13,hh5⟩:=sS hall 1 13 rfl rfl
 replace st:=st.add hh5 (Rq.cl _)
 clear hh5
 obtain⟨vv6,e15,hh7⟩:=sS hall 3 15 rfl rfl
 replace st:=st.add hh7 (Rr.cl _)
 clear hh7
 obtain⟨_,e7,g7,rfl,ge7,o7⟩:=sS hall 4 7 rfl rfl
 replace st:=st.push o7.blk (Nat.le_trans s0.bel.size ge7) (s0.ne ge7)
 clear o7
 obtain⟨_,e8,g8,rfl,ge8,o8⟩:=sS hall 5 8 rfl rfl
 replace st:=st.push o8.blk (Nat.le_trans s0.bel.size ge8) (ne_cons (fun(e:g7=g8)=>hne 4 5 7 8 rfl rfl (by decide) rfl rfl (by rw[e7,e8,e])) (s0.ne ge8))
 clear o8
 clear hall hne bb s0
 obtain⟨b8,ad8,n8,c8,ae8,m8,d8,rfl⟩:=Rq.form (st.f 1 rfl)
 replace hF:=hF.add e13
 clear e13
 obtain⟨b9,ad9,n9,c9,ae9,m9,d9,rfl⟩:=Rr.form (st.f 0 rfl)
 replace hF:=hF.add e15
 clear e15
 replace hF:=hF.add e7
 clear e7
 replace hF:=hF.add e8
 clear e8
 refine S.sto st hF 1 rfl (hF.at 1 rfl) (hF.at 3 rfl) ty_Rat rfl rfl rfl rfl fun w10 a st hF=>?_
 refine S.sto st hF 0 rfl (hF.at 0 rfl) (hF.at 2 rfl) ty_RRat rfl rfl rfl rfl fun w11 a st hF=>?_
 refine E.nil ?_
 refine wp_seq ?_
 refine E.seq ?_
 refine E.opv hF (r_move (hF.at 9 rfl)) rfl rfl rfl rfl fun a hF=>?_
 refine E.opv hF (r_move (hF.at 11 rfl)) rfl rfl rfl rfl fun a hF=>?_
 refine S.callx st hF (r_call Tryz.func12 en12.1 en12.2 (map4 (hF.at 1 rfl) (hF.at 0 rfl) ev_c ev_c)) (good_any la lb 0 1 _) rfl rfl rfl rfl fun w12 a st hF=>?_
 have hg1:=gB_bd lb
 have hg2:=gLat_bd la lb
 have hg3:=gB_bd 1
 have hg4:=gLon_bd 0 1
 have hok1933:=good_ok la lb 0 1
 refine S.new st hF 0 rfl ty_Plc rfl rfl rfl rfl rfl fun g9 w13 a st hF=>?_
 refine E.nil ?_
 refine wp_seq ?_
 refine wp_seq ?_
 refine E.drawn 38 mixed hF [19,20,21,22,23,24,25,26,27,28,29,30,31,32,33,34,35,36,37,38,39,40,41,42,43,44,45,46,47,48,49,50,51,52,53,54,55,56] [(fun _ v=>v= .agg #[.bool b8,.slice ad8 n8 c8,.slice ae8 m8 d8]),(fun w v=>Rq w v (precV (((rawZ nega1 xa1 2:Int):Rat)/((rawZ negb1 xb1 2:Int):Rat)))),(fun _ v=>v= .agg #[.bool b9,.slice ad9 n9 c9,.slice ae9 m9 d9]),(fun w v=>Rr w v (precV (((rawZ nega1 xa1 2:Int):Rat)/((rawZ negb1 xb1 2:Int):Rat))) ((2+2+60))),(fun _ v=>v= .int .i64 0),(fun _ v=>v= .bool false),(fun _ v=>v= .bool false),(fun _ v=>v= .agg #[.bool b8,.slice ad8 n8 c8,.slice ae8 m8 d8]),(fun w v=>Rq w v (tropV (((rawZ nega1 xa1 2:Int):Rat)/((rawZ negb1 xb1 2:Int):Rat)))),(fun _ v=>v= .agg #[.bool b9,.slice ad9 n9 c9,.slice ae9 m9 d9]),(fun w v=>Rr w v (tropV (((rawZ nega1 xa1 2:Int):Rat)/((rawZ negb1 xb1 2:Int):Rat))) ((4*2+14*2+680))),(fun _ v=>v= .int .i64 0),(fun _ v=>v= .bool false),(fun _ v=>v= .bool false),(fun _ v=>v= .bool false),(fun _ v=>v= .agg #[.bool b8,.slice ad8 n8 c8,.slice ae8 m8 d8]),(fun w v=>Rq w v (motV (((rawZ nega1 xa1 2:Int):Rat)/((rawZ negb1 xb1 2:Int):Rat)))),(fun _ v=>v= .agg #[.bool b9,.slice ad9 n9 c9,.slice ae9 m9 d9]),(fun w v=>Rr w v (motV (((rawZ nega1 xa1 2:Int):Rat)/((rawZ negb1 xb1 2:Int):Rat))) ((2+2*2+130))),(fun _ v=>v= .int .i64 0),(fun _ v=>v= .bool false),(fun _ v=>v= .bool false),(fun _ v=>v= .bool false),(fun _ v=>v= .agg #[.bool b8,.slice ad8 n8 c8,.slice ae8 m8 d8]),(fun w v=>Rq w v (risV (((rawZ nega1 xa1 2:Int):Rat)/((rawZ negb1 xb1 2:Int):Rat)))),(fun _ v=>v= .agg #[.bool b9,.slice ad9 n9 c9,.slice ae9 m9 d9]),(fun w v=>Rr w v (risV (((rawZ nega1 xa1 2:Int):Rat)/((rawZ negb1 xb1 2:Int):Rat))) (2)),(fun _ v=>v= .int .i64 0),(fun _ v=>v= .bool false),(fun _ v=>v= .bool false),(fun _ v=>v= .bool false),(fun _ v=>v= .agg #[.bool b8,.slice ad8 n8 c8,.slice ae8 m8 d8]),(fun w v=>Rq w v (eqnV (((rawZ nega1 xa1 2:Int):Rat)/((rawZ negb1 xb1 2:Int):Rat)))),(fun _ v=>v= .agg #[.bool b9,.slice ad9 n9 c9,.slice ae9 m9 d9]),(fun w v=>Rr w v (eqnV (((rawZ nega1 xa1 2:Int):Rat)/((rawZ negb1 xb1 2:Int):Rat))) ((3*2+6*2+350))),(fun _ v=>v= .int .i64 0),(fun _ v=>v= .bool false),(fun _ v=>v= .bool false)] [] (by decide+kernel) (by decide+kernel) rfl rfl rfl ⟨(Mb.eq _),(fun _ _ _ h hb=>h.below hb),(Mb.eq _),(fun _ _ _ h hb=>h.below hb),(Mb.eq _),(Mb.eq _),(Mb.eq _),(Mb.eq _),(fun _ _ _ h hb=>h.below hb),(Mb.eq _),(fun _ _ _ h hb=>h.below hb),(Mb.eq _),(Mb.eq _),(Mb.eq _),(Mb.eq _),(Mb.eq _),(fun _ _ _ h hb=>h.below hb),(Mb.eq _),(fun _ _ _ h hb=>h.below hb),(Mb.eq _),(Mb.eq _),(Mb.eq _),(Mb.eq _),(Mb.eq _),(fun _ _ _ h hb=>h.below hb),(Mb.eq _),(fun _ _ _ h hb=>h.below hb),(Mb.eq _),(Mb.eq _),(Mb.eq _),(Mb.eq _),(Mb.eq _),(fun _ _ _ h hb=>h.below hb),(Mb.eq _),(fun _ _ _ h hb=>h.below hb),(Mb.eq _),(Mb.eq _),(Mb.eq _),trivial⟩ trivial ⟨?_,?_,?_,?_,?_,?_,?_,?_,?_,?_,?_,?_,?_,?_,?_,?_,?_,?_,?_,?_,?_,?_,?_,?_,?_,?_,?_,?_,?_,?_,?_,?_,?_,?_,?_,?_,?_,?_,trivial⟩ ?_
 ·intro a' w' hF' hb hd
  exact dv0 (r_load (hF'.at 5 rfl) (ld_all ty_Rat ((st.bk 2 rfl).below hb) rfl)) rfl rfl rfl
 ·intro a' w' hF' hb hd
  have e19:=sHe hd 0 19 rfl rfl rfl rfl
  exact dc0 (r_call Tryz.func14 en14.1 en14.2 (map1 e19)) (rePrecession_any _ _ 2 _ ((st.f 1 rfl).below hb) (own5_lim nega1 negb1 oka1 okb1 2 (by decide)) (by omega)) rfl rfl
 ·intro a' w' hF' hb hd
  exact dv0 (r_load (hF'.at 4 rfl) (ld_all ty_RRat ((st.bk 1 rfl).below hb) rfl)) rfl rfl rfl
 ·intro a' w' hF' hb hd
  have e21:=sHe hd 0 21 rfl rfl rfl rfl
  exact dc0 (r_call Tryz.func15 en15.1 en15.2 (map1 e21)) (rPrecession14_any _ _ 2 2 _ ((st.f 0 rfl).below hb) (own5_lim nega1 negb1 oka1 okb1 2 (by decide)) (by omega) (by omega) (by omega)) rfl rfl
 ·intro a' w' hF' hb hd
  obtain⟨v20_0,e20,h20_1⟩:=sH hd 0 20 rfl rfl rfl rfl
  obtain⟨v22_0,e22,h22_1⟩:=sH hd 1 22 rfl rfl rfl rfl
  exact dcx0 (r_call Tryz.func13 en13.1 en13.2 (map2 e20 e22)) (Is5_any _ _ _ _ (2*2+60) (2+2+60) _ h20_1 h22_1 (prec_lim (own5_lim nega1 negb1 oka1 okb1 2 (by decide))) rfl (by omega) (by omega)) (fun _=>rfl) rfl rfl
 ·intro a' w' hF' hb hd
  have e23:=sHe hd 0 23 rfl rfl rfl rfl
  exact dv0 (r_bin e23 ev_c eg_scalar (bi_int (ic_neq (c:=false) (by decide)) (by simp))) rfl rfl rfl
 ·intro a' w' hF' hb hd
  have e24:=sHe hd 0 24 rfl rfl rfl rfl
  exact dv0 (r_move e24) rfl rfl rfl
 ·intro a' w' hF' hb hd
  have e25:=sHe hd 0 25 rfl rfl rfl rfl
  exact dv1 (wanted_by rfl rfl e25 rfl) (r_load (hF'.at 5 rfl) (ld_all ty_Rat ((st.bk 2 rfl).below hb) rfl)) rfl rfl
 ·intro a' w' hF' hb hd
  have e25:=sHe hd 1 25 rfl rfl rfl rfl
  have e26:=sHe hd 0 26 rfl rfl rfl rfl
  exact dc1 (wanted_by rfl rfl e25 rfl) (r_call Tryz.func16 en16.1 en16.2 (map1 e26)) (reTropical_any _ _ 2 _ (hT.below (below_to st.bel hb)) ((st.f 1 rfl).below hb) (own5_lim nega1 negb1 oka1 okb1 2 (by decide)) (by omega)) rfl
 ·intro a' w' hF' hb hd
  have e25:=sHe hd 0 25 rfl rfl rfl rfl
  exact dv1 (wanted_by rfl rfl e25 rfl) (r_load (hF'.at 4 rfl) (ld_all ty_RRat ((st.bk 1 rfl).below hb) rfl)) rfl rfl
 ·intro a' w' hF' hb hd
  have e25:=sHe hd 2 25 rfl rfl rfl rfl
  have e28:=sHe hd 0 28 rfl rfl rfl rfl
  exact dc1 (wanted_by rfl rfl e25 rfl) (r_call Tryz.func17 en17.1 en17.2 (map1 e28)) (rTropical14_any _ _ 2 2 _ ((st.f 0 rfl).below hb) (own5_lim nega1 negb1 oka1 okb1 2 (by decide)) (by omega) (by omega) (by omega)) rfl
 ·intro a' w' hF' hb hd
  have e25:=sHe hd 3 25 rfl rfl rfl rfl
  obtain⟨v27_0,e27,h27_1⟩:=sH hd 0 27 rfl rfl rfl rfl
  obtain⟨v29_0,e29,h29_1⟩:=sH hd 1 29 rfl rfl rfl rfl
  exact dcx1 (wanted_by rfl rfl e25 rfl) (r_call Tryz.func13 en13.1 en13.2 (map2 e27 e29)) (Is5_any _ _ _ _ (5*2+180) (4*2+14*2+680) _ h27_1 h29_1 (trop_lim (own5_lim nega1 negb1 oka1 okb1 2 (by decide))) rfl (by omega) (by omega)) (fun _=>rfl) rfl
 ·intro a' w' hF' hb hd
  have e25:=sHe hd 1 25 rfl rfl rfl rfl
  have e30:=sHe hd 0 30 rfl rfl rfl rfl
  exact dv1 (wanted_by rfl rfl e25 rfl) (r_bin e30 ev_c eg_scalar (bi_int (ic_neq (c:=false) (by decide)) (by simp))) rfl rfl
 ·intro a' w' hF' hb hd
  have e25:=sHe hd 0 25 rfl rfl rfl rfl
  have e31:=sHe hd 1 31 rfl rfl rfl rfl
  exact dv0 (r_pick_f e25 e31) rfl rfl rfl
 ·intro a' w' hF' hb hd
  have e32:=sHe hd 0 32 rfl rfl rfl rfl
  exact dv0 (r_move e32) rfl rfl rfl
 ·intro a' w' hF' hb hd
  have e33:=sHe hd 0 33 rfl rfl rfl rfl
  exact dv1 (wanted_by rfl rfl e33 rfl) (r_load (hF'.at 5 rfl) (ld_all ty_Rat ((st.bk 2 rfl).below hb) rfl)) rfl rfl
 ·intro a' w' hF' hb hd
  have e33:=sHe hd 1 33 rfl rfl rfl rfl
  have e34:=sHe hd 0 34 rfl rfl rfl rfl
  exact dc1 (wanted_by rfl rfl e33 rfl) (r_call Tryz.func18 en18.1 en18.2 (map1 e34)) (reMotionV_any _ _ 2 _ (hT.below (below_to st.bel hb)) ((st.f 1 rfl).below hb) (own5_lim nega1 negb1 oka1 okb1 2 (by decide)) (by omega)) rfl
 ·intro a' w' hF' hb hd
  have e33:=sHe hd 0 33 rfl rfl rfl rfl
  exact dv1 (wanted_by rfl rfl e33 rfl) (r_load (hF'.at 4 rfl) (ld_all ty_RRat ((st.bk 1 rfl).below hb) rfl)) rfl rfl
 ·intro a' w' hF' hb hd
  have e33:=sHe hd 2 33 rfl rfl rfl rfl
  have e36:=sHe hd 0 36 rfl rfl rfl rfl
  exact dc1 (wanted_by rfl rfl e33 rfl) (r_call Tryz.func19 en19.1 en19.2 (map1 e36)) (rMotion14_any _ _ 2 2 _ ((st.f 0 rfl).below hb) (own5_lim nega1 negb1 oka1 okb1 2 (by decide)) (by omega) (by omega) (by omega)) rfl
 ·intro a' w' hF' hb hd
  have e33:=sHe hd 3 33 rfl rfl rfl rfl
  obtain⟨v35_0,e35,h35_1⟩:=sH hd 0 35 rfl rfl rfl rfl
  obtain⟨v37_0,e37,h37_1⟩:=sH hd 1 37 rfl rfl rfl rfl
  exact dcx1 (wanted_by rfl rfl e33 rfl) (r_call Tryz.func13 en13.1 en13.2 (map2 e35 e37)) (Is5_any _ _ _ _ (2+50) (2+2*2+130) _ h35_1 h37_1 (mot_lim (own5_lim nega1 negb1 oka1 okb1 2 (by decide))) rfl (by omega) (by omega)) (fun _=>rfl) rfl
 ·intro a' w' hF' hb hd
  have e33:=sHe hd 1 33 rfl rfl rfl rfl
  have e38:=sHe hd 0 38 rfl rfl rfl rfl
  exact dv1 (wanted_by rfl rfl e33 rfl) (r_bin e38 ev_c eg_scalar (bi_int (ic_neq (c:=false) (by decide)) (by simp))) rfl rfl
 ·intro a' w' hF' hb hd
  have e33:=sHe hd 0 33 rfl rfl rfl rfl
  have e39:=sHe hd 1 39 rfl rfl rfl rfl
  exact dv0 (r_pick_f e33 e39) rfl rfl rfl
 ·intro a' w' hF' hb hd
  have e40:=sHe hd 0 40 rfl rfl rfl rfl
  exact dv0 (r_move e40) rfl rfl rfl
 ·intro a' w' hF' hb hd
  have e41:=sHe hd 0 41 rfl rfl rfl rfl
  exact dv1 (wanted_by rfl rfl e41 rfl) (r_load (hF'.at 5 rfl) (ld_all ty_Rat ((st.bk 2 rfl).below hb) rfl)) rfl rfl
 ·intro a' w' hF' hb hd
  have e41:=sHe hd 1 41 rfl rfl rfl rfl
  have e42:=sHe hd 0 42 rfl rfl rfl rfl
  exact dc1 (wanted_by rfl rfl e41 rfl) (r_call Tryz.func20 en20.1 en20.2 (map1 e42)) (reRisingV_any _ _ 2 _ (hT.below (below_to st.bel hb)) ((st.f 1 rfl).below hb) (own5_lim nega1 negb1 oka1 okb1 2 (by decide)) (by omega)) rfl
 ·intro a' w' hF' hb hd
  have e41:=sHe hd 0 41 rfl rfl rfl rfl
  exact dv1 (wanted_by rfl rfl e41 rfl) (r_load (hF'.at 4 rfl) (ld_all ty_RRat ((st.bk 1 rfl).below hb) rfl)) rfl rfl
 ·intro a' w' hF' hb hd
  have e41:=sHe hd 2 41 rfl rfl rfl rfl
  have e44:=sHe hd 0 44 rfl rfl rfl rfl
  exact dc1 (wanted_by rfl rfl e41 rfl) (r_call Tryz.func21 en21.1 en21.2 (map1 e44)) (rRising14_any _ _ 2 2 _ ((st.f 0 rfl).below hb) (own5_lim nega1 negb1 oka1 okb1 2 (by decide)) (by omega) (by omega) (by omega)) rfl
 ·intro a' w' hF' hb hd
  have e41:=sHe hd 3 41 rfl rfl rfl rfl
  obtain⟨v43_0,e43,h43_1⟩:=sH hd 0 43 rfl rfl rfl rfl
  obtain⟨v45_0,e45,h45_1⟩:=sH hd 1 45 rfl rfl rfl rfl
  exact dcx1 (wanted_by rfl rfl e41 rfl) (r_call Tryz.func13 en13.1 en13.2 (map2 e43 e45)) (Is5_any _ _ _ _ 1 2 _ h43_1 h45_1 (risQ_lim _) rfl (by omega) (by omega)) (fun _=>rfl) rfl
 ·intro a' w' hF' hb hd
  have e41:=sHe hd 1 41 rfl rfl rfl rfl
  have e46:=sHe hd 0 46 rfl rfl rfl rfl
  exact dv1 (wanted_by rfl rfl e41 rfl) (r_bin e46 ev_c eg_scalar (bi_int (ic_neq (c:=false) (by decide)) (by simp))) rfl rfl
 ·intro a' w' hF' hb hd
  have e41:=sHe hd 0 41 rfl rfl rfl rfl
  have e47:=sHe hd 1 47 rfl rfl rfl rfl
  exact dv0 (r_pick_f e41 e47) rfl rfl rfl
 ·intro a' w' hF' hb hd
  have e48:=sHe hd 0 48 rfl rfl rfl rfl
  exact dv0 (r_move e48) rfl rfl rfl
 ·intro a' w' hF' hb hd
  have e49:=sHe hd 0 49 rfl rfl rfl rfl
  exact dv1 (wanted_by rfl rfl e49 rfl) (r_load (hF'.at 5 rfl) (ld_all ty_Rat ((st.bk 2 rfl).below hb) rfl)) rfl rfl
 ·intro a' w' hF' hb hd
  have e49:=sHe hd 1 49 rfl rfl rfl rfl
  have e50:=sHe hd 0 50 rfl rfl rfl rfl
  exact dc1 (wanted_by rfl rfl e49 rfl) (r_call Tryz.func22 en22.1 en22.2 (map1 e50)) (reEquationV_any _ _ 2 _ (hT.below (below_to st.bel hb)) ((st.f 1 rfl).below hb) (own5_lim nega1 negb1 oka1 okb1 2 (by decide)) (by omega)) rfl
 ·intro a' w' hF' hb hd
  have e49:=sHe hd 0 49 rfl rfl rfl rfl
  exact dv1 (wanted_by rfl rfl e49 rfl) (r_load (hF'.at 4 rfl) (ld_all ty_RRat ((st.bk 1 rfl).below hb) rfl)) rfl rfl
 ·intro a' w' hF' hb hd
  have e49:=sHe hd 2 49 rfl rfl rfl rfl
  have e52:=sHe hd 0 52 rfl rfl rfl rfl
  exact dc1 (wanted_by rfl rfl e49 rfl) (r_call Tryz.func23 en23.1 en23.2 (map1 e52)) (rEquation14_any _ _ 2 2 _ ((st.f 0 rfl).below hb) (own5_lim nega1 negb1 oka1 okb1 2 (by decide)) (by omega) (by omega) (by omega)) rfl
 ·intro a' w' hF' hb hd
  have e49:=sHe hd 3 49 rfl rfl rfl rfl
  obtain⟨v51_0,e51,h51_1⟩:=sH hd 0 51 rfl rfl rfl rfl
  obtain⟨v53_0,e53,h53_1⟩:=sH hd 1 53 rfl rfl rfl rfl
  exact dcx1 (wanted_by rfl rfl e49 rfl) (r_call Tryz.func13 en13.1 en13.2 (map2 e51 e53)) (Is5_any _ _ _ _ (3*2+130) (3*2+6*2+350) _ h51_1 h53_1 (eqn_lim (own5_lim nega1 negb1 oka1 okb1 2 (by decide))) rfl (by omega) (by omega)) (fun _=>rfl) rfl
 ·intro a' w' hF' hb hd
  have e49:=sHe hd 1 49 rfl rfl rfl rfl
  have e54:=sHe hd 0 54 rfl rfl rfl rfl
  exact dv1 (wanted_by rfl rfl e49 rfl) (r_bin e54 ev_c eg_scalar (bi_int (ic_neq (c:=false) (by decide)) (by simp))) rfl rfl
 ·intro a' w' hF' hb hd
  have e49:=sHe hd 0 49 rfl rfl rfl rfl
  have e55:=sHe hd 1 55 rfl rfl rfl rfl
  exact dv0 (r_pick_f e49 e55) rfl rfl rfl
 intro a w14 hF bb hall hne
 replace st:=st.to bb
 have e56:=sSe hall 37 56 rfl rfl
 clear hall hne bb
 replace hF:=hF.add e56
 clear e56
 refine E.nil ?_
 refine wp_cond_false (hF.at 0 rfl) ?_
 refine wp_skip ?_
 refine E.norm ?_
 refine wp_seq ?_
 refine E.drawn 18 mixed hF [57,58,59,60,61,62,63,64,65,66,67,68,69,70,71,72,73,74] [(fun _ v=>v= .agg #[.bool b8,.slice ad8 n8 c8,.slice ae8 m8 d8]),(fun _ v=>v= .agg #[.int .i64 (gA 60 120 la lb),.int .i64 (gB lb),.int .i64 (gA 180 360 0 1),.int .i64 (gB 1)]),(fun w v=>Rq w v (diffV (((rawZ nega1 xa1 2:Int):Rat)/((rawZ negb1 xb1 2:Int):Rat)) (((gA 60 120 la lb:Int):Rat)/((gB lb:Int):Rat)))),(fun _ v=>v= .agg #[.bool b9,.slice ad9 n9 c9,.slice ae9 m9 d9]),(fun _ v=>v= .agg #[.int .i64 (gA 60 120 la lb),.int .i64 (gB lb),.int .i64 (gA 180 360 0 1),.int .i64 (gB 1)]),(fun w v=>RPl w v (((gA 60 120 la lb:Int):Rat)/((gB lb:Int):Rat)) (((gA 180 360 0 1:Int):Rat)/((gB 1:Int):Rat)) 2),(fun w v=>Rr w v ((((gA 60 120 la lb:Int):Rat)/((gB lb:Int):Rat))) (2)),(fun w v=>Rr w v (diffV (((rawZ nega1 xa1 2:Int):Rat)/((rawZ negb1 xb1 2:Int):Rat)) ((((gA 60 120 la lb:Int):Rat)/((gB lb:Int):Rat)))) ((10*2+50*2+2500))),(fun _ v=>v= .int .i64 0),(fun _ v=>v= .bool true),(fun _ v=>v= .bool true),(fun _ v=>v= .agg #[.bool b8,.slice ad8 n8 c8,.slice ae8 m8 d8]),(fun w v=>Rq w v (grainV (((rawZ nega1 xa1 2:Int):Rat)/((rawZ negb1 xb1 2:Int):Rat)))),(fun _ v=>v= .agg #[.bool b9,.slice ad9 n9 c9,.slice ae9 m9 d9]),(fun w v=>Rr w v (grainV (((rawZ nega1 xa1 2:Int):Rat)/((rawZ negb1 xb1 2:Int):Rat))) ((2+20))),(fun _ v=>v= .int .i64 0),(fun _ v=>v= .bool true),(fun _ v=>v= .bool true)] [] (by decide+kernel) (by decide+kernel) rfl rfl rfl ⟨(Mb.eq _),(Mb.eq _),(fun _ _ _ h hb=>h.below hb),(Mb.eq _),(Mb.eq _),(fun _ _ _ h hb=>h.below hb),(fun _ _ _ h hb=>h.below hb),(fun _ _ _ h hb=>h.below hb),(Mb.eq _),(Mb.eq _),(Mb.eq _),(Mb.eq _),(fun _ _ _ h hb=>h.below hb),(Mb.eq _),(fun _ _ _ h hb=>h.below hb),(Mb.eq _),(Mb.eq _),(Mb.eq _),trivial⟩ trivial ⟨?_,?_,?_,?_,?_,?_,?_,?_,?_,?_,?_,?_,?_,?_,?_,?_,?_,?_,trivial⟩ ?_
 ·intro a' w' hF' hb hd
  exact dv0 (r_load (hF'.at 6 rfl) (ld_all ty_Rat ((st.bk 2 rfl).below hb) rfl)) rfl rfl rfl
 ·intro a' w' hF' hb hd
  exact dv0 (r_load (hF'.at 1 rfl) (ld_all ty_Plc ((st.bk 0 rfl).below hb) rfl)) rfl rfl rfl
 ·intro a' w' hF' hb hd
  have e57:=sHe hd 0 57 rfl rfl rfl rfl
  have e58:=sHe hd 1 58 rfl rfl rfl rfl
  exact dc0 (r_call Tryz.func24 en24.1 en24.2 (map2 e57 e58)) (reDifference_any _ _ (gA 60 120 la lb) (gB lb) (gA 180 360 0 1) (gB 1) 2 _ (hT.below (below_to st.bel hb)) ((st.f 1 rfl).below hb) (own5_lim nega1 negb1 oka1 okb1 2 (by decide)) (by omega) (by omega) (by omega) (by omega) (by omega)) rfl rfl
 ·intro a' w' hF' hb hd
  exact dv0 (r_load (hF'.at 5 rfl) (ld_all ty_RRat ((st.bk 1 rfl).below hb) rfl)) rfl rfl rfl
 ·intro a' w' hF' hb hd
  exact dv0 (r_load (hF'.at 1 rfl) (ld_all ty_Plc ((st.bk 0 rfl).below hb) rfl)) rfl rfl rfl
 ·intro a' w' hF' hb hd
  have e61:=sHe hd 0 61 rfl rfl rfl rfl
  exact dc0 (r_call Tryz.func26 en26.1 en26.2 (map1 e61)) (told13_any (gA 60 120 la lb) (gB lb) (gA 180 360 0 1) (gB 1) _ (by omega) (by omega) (by omega) (by omega) (by omega) (by omega) (by omega) (by omega)) rfl rfl
 ·intro a' w' hF' hb hd
  obtain⟨v62_0,e62,h62_1⟩:=sH hd 0 62 rfl rfl rfl rfl
  obtain⟨b16x,ad16x,n16x,c16x,ae16x,m16x,d16x,b16y,ad16y,n16y,c16y,ae16y,m16y,d16y,rfl,hp16x,hp16y⟩:=RPl.shape h62_1
  exact dv0 (r_fieldv e62 (fv_RPl_0 _ _ _ _ _ _ _ _ _ _ _ _ _ _ _)) hp16x rfl rfl
 ·intro a' w' hF' hb hd
  have e60:=sHe hd 0 60 rfl rfl rfl rfl
  obtain⟨v63,e63,h63⟩:=sH hd 1 63 rfl rfl rfl rfl
  exact dc0 (r_call Tryz.func25 en25.1 en25.2 (map2 e60 e63)) (rDifference14_any _ _ _ _ 2 2 _ ((st.f 0 rfl).below hb) h63 (own5_lim nega1 negb1 oka1 okb1 2 (by decide)) (lim64q (n:=gA 60 120 la lb) (d:=gB lb) (by omega) (by omega) (by omega) (by omega)) (by omega) (by omega) (by omega)) rfl rfl
 ·intro a' w' hF' hb hd
  obtain⟨v59_0,e59,h59_1⟩:=sH hd 0 59 rfl rfl rfl rfl
  obtain⟨v64_0,e64,h64_1⟩:=sH hd 1 64 rfl rfl rfl rfl
  exact dcx0 (r_call Tryz.func13 en13.1 en13.2 (map2 e59 e64)) (Is5_any _ _ _ _ (10*2+520) (10*2+50*2+2500) _ h59_1 h64_1 (diff_lim (own5_lim nega1 negb1 oka1 okb1 2 (by decide)) (lim64q (n:=gA 60 120 la lb) (d:=gB lb) (by omega) (by omega) (by omega) (by omega)) (by decide)) rfl (by omega) (by omega)) (fun _=>rfl) rfl rfl
 ·intro a' w' hF' hb hd
  have e65:=sHe hd 0 65 rfl rfl rfl rfl
  exact dv0 (r_bin e65 ev_c eg_scalar (bi_int (ic_eql (c:=true) (by decide)) (by simp))) rfl rfl rfl
 ·intro a' w' hF' hb hd
  have e66:=sHe hd 0 66 rfl rfl rfl rfl
  exact dv0 (r_move e66) rfl rfl rfl
 ·intro a' w' hF' hb hd
  have e67:=sHe hd 0 67 rfl rfl rfl rfl
  exact dv1 (wanted_by rfl rfl e67 rfl) (r_load (hF'.at 6 rfl) (ld_all ty_Rat ((st.bk 2 rfl).below hb) rfl)) rfl rfl
 ·intro a' w' hF' hb hd
  have e67:=sHe hd 1 67 rfl rfl rfl rfl
  have e68:=sHe hd 0 68 rfl rfl rfl rfl
  exact dc1 (wanted_by rfl rfl e67 rfl) (r_call Tryz.func27 en27.1 en27.2 (map1 e68)) (reGrain_any _ _ 2 _ ((st.f 1 rfl).below hb) (own5_lim nega1 negb1 oka1 okb1 2 (by decide)) (by omega)) rfl
 ·intro a' w' hF' hb hd
  have e67:=sHe hd 0 67 rfl rfl rfl rfl
  exact dv1 (wanted_by rfl rfl e67 rfl) (r_load (hF'.at 5 rfl) (ld_all ty_RRat ((st.bk 1 rfl).below hb) rfl)) rfl rfl
 ·intro a' w' hF' hb hd
  have e67:=sHe hd 2 67 rfl rfl rfl rfl
  have e70:=sHe hd 0 70 rfl rfl rfl rfl
  exact dc1 (wanted_by rfl rfl e67 rfl) (r_call Tryz.func28 en28.1 en28.2 (map1 e70)) (rGrain14_any _ _ 2 2 _ ((st.f 0 rfl).below hb) (own5_lim nega1 negb1 oka1 okb1 2 (by decide)) (by omega) (by omega) (by omega)) rfl
 ·intro a' w' hF' hb hd
  have e67:=sHe hd 3 67 rfl rfl rfl rfl
  obtain⟨v69_0,e69,h69_1⟩:=sH hd 0 69 rfl rfl rfl rfl
  obtain⟨v71_0,e71,h71_1⟩:=sH hd 1 71 rfl rfl rfl rfl
  exact dcx1 (wanted_by rfl rfl e67 rfl) (r_call Tryz.func13 en13.1 en13.2 (map2 e69 e71)) (Is5_any _ _ _ _ (2+10) (2+20) _ h69_1 h71_1 (grain_lim (own5_lim nega1 negb1 oka1 okb1 2 (by decide))) rfl (by omega) (by omega)) (fun _=>rfl) rfl
 ·intro a' w' hF' hb hd
  have e67:=sHe hd 1 67 rfl rfl rfl rfl
  have e72:=sHe hd 0 72 rfl rfl rfl rfl
  exact dv1 (wanted_by rfl rfl e67 rfl) (r_bin e72 ev_c eg_scalar (bi_int (ic_eql (c:=true) (by decide)) (by simp))) rfl rfl
 ·intro a' w' hF' hb hd
  have e67:=sHe hd 0 67 rfl rfl rfl rfl
  have e73:=sHe hd 1 73 rfl rfl rfl rfl
  exact dv0 (r_pick_t e67 e73) rfl rfl rfl
 intro a w17 hF bb hall hne
 replace st:=st.to bb
 have e74:=sSe hall 17 74 rfl rfl
 clear hall hne bb
 replace hF:=hF.add e74
 clear e74
 refine E.opset (L':=[(6,.bool true),(74,.bool true),(56,.bool false),(9,.pointer (some ⟨g9,0,none⟩)),(18,.agg #[.int .i64 (gA 60 120 la lb),.int .i64 (gB lb),.int .i64 (gA 180 360 0 1),.int .i64 (gB 1)]),(17,.int .i64 lb),(16,.int .i64 la),(8,.pointer (some ⟨g8,0,none⟩)),(7,.pointer (some ⟨g7,0,none⟩)),(15,.agg #[.bool b9,.slice ad9 n9 c9,.slice ae9 m9 d9]),(13,.agg #[.bool b8,.slice ad8 n8 c8,.slice ae8 m8 d8]),(11,.bool false),(10,.bool true),(3,.pointer (some ⟨g3,0,none⟩)),(0,.agg #[.bool nega1,.slice aa1 na1 ca1,.bool negb1,.slice ab1 nb1 cb1]),(1,.int .i64 la),(2,.int .i64 lb)]) hF (r_assign (hF.at 0 rfl)) rfl rfl rfl rfl fun a hF=>?_
 refine E.nil ?_
 refine wp_ret ?_
 have bel:=st.bel
 refine bodyPost_ret (res_tmp Tryz.results3 (hF.at 0 rfl)) hF.dfr ?_
 exact⟨rfl,bel⟩
theorem riseDays_walk (da la lb lc ld:Int) (w:World) (hT:TabD w):
 Calls Tryz.prog 4 #[.int .i64 da,.int .i64 la,.int .i64 lb,.int .i64 lc,.int .i64 ld] w (ValPost w (.bool true)):=by
 have st:=St.start w
 refine E.enter (nt:=65) (L:=[(0,.int .i64 da),(1,.int .i64 la),(2,.int .i64 lb),(3,.int .i64 lc),(4,.int .i64 ld)]) Tryz.func4 rfl rfl rfl (args_cons (i:=0) rfl (args_cons (i:=1) rfl (args_cons (i:=2) rfl (args_cons (i:=3) rfl (args_cons (i:=4) rfl args_nil))))) ?_
 intro a hF
 refine wp_seq ?_
 refine E.seq ?_
 refine E.opv hF (r_assign ev_c) rfl rfl rfl rfl fun a hF=>?_
 refine E.nil ?_
 refine wp_seq ?_
 refine wp_seq ?_
 refine E.seq ?_
 refine S.callx st hF (r_call Tryz.func9 en9.1 en9.2 map0) (awake14_any _ (hT.below st.bel)) rfl rfl rfl rfl fun w1 a st hF=>?_
 refine E.opv hF (r_un (hF.at 0 rfl) (bn_not _ false rfl)) rfl rfl rfl rfl fun a hF=>?_
 refine E.nil ?_
 refine wp_cond_false (hF.at 0 rfl) ?_
 refine wp_skip ?_
 refine E.norm ?_
 refine wp_seq ?_
 refine E.seq ?_
 refine E.opv hF (r_move (hF.at 3 rfl)) rfl rfl rfl rfl fun a hF=>?_
 refine S.callx st hF (r_call Tryz.func29 en29.1 en29.2 (map1 (hF.at 0 rfl))) (inD_any da _) rfl rfl rfl rfl fun w2 a st hF=>?_
 have hin:=inD_bd da
 refine E.opv hF (r_assign (hF.at 0 rfl)) rfl rfl rfl rfl fun a hF=>?_
 refine E.nil ?_
 refine wp_seq ?_
 refine E.seq ?_
 refine E.opv hF (r_move (hF.at 7 rfl)) rfl rfl rfl rfl fun a hF=>?_
 refine E.opv hF (r_move (hF.at 9 rfl)) rfl rfl rfl rfl fun a hF=>?_
 refine E.opv hF (r_move (hF.at 11 rfl)) rfl rfl rfl rfl fun a hF=>?_
 refine E.opv hF (r_move (hF.at 13 rfl)) rfl rfl rfl rfl fun a hF=>?_
 refine S.callx st hF (r_call Tryz.func12 en12.1 en12.2 (map4 (hF.at 3 rfl) (hF.at 2 rfl) (hF.at 1 rfl) (hF.at 0 rfl))) (good_any la lb lc ld _) rfl rfl rfl rfl fun w3 a st hF=>?_
 have hg1:=gB_bd lb
 have hg2:=gLat_bd la lb
 have hg3:=gB_bd ld
 have hg4:=gLon_bd lc ld
 have hok3166:=good_ok la lb lc ld
 refine S.new st hF 0 rfl ty_Plc rfl rfl rfl rfl rfl fun g12 w4 a st hF=>?_
 refine E.nil ?_
 refine wp_seq ?_
 refine E.seq ?_
 refine E.opv hF (r_load (hF.at 0 rfl) (ld_all ty_Plc (st.bk 0 rfl) rfl)) rfl rfl rfl rfl fun a hF=>?_
 refine S.call st hF (r_call Tryz.func26 en26.1 en26.2 (map1 (hF.at 0 rfl))) (told13_any (gA 60 120 la lb) (gB lb) (gA 180 360 lc ld) (gB ld) _ (by omega) (by omega) (by omega) (by omega) (by omega) (by omega) (by omega) (by omega)) (fun _ _ h=>h) RPl.cl rfl rfl rfl rfl fun vv6 w5 a st hF=>?_
 obtain⟨b9x,ad9x,n9x,c9x,ae9x,m9x,d9x,b9y,ad9y,n9y,c9y,ae9y,m9y,d9y,rfl,hp9x,hp9y⟩:=RPl.shape (st.f 0 rfl)
 refine S.new st hF 0 rfl ty_RPl rfl rfl rfl rfl rfl fun g13 w10 a st hF=>?_
 refine E.nil ?_
 refine wp_seq ?_
 refine E.drawn 8 mixed hF [27,28,29,30,31,32,14,15] [(fun _ v=>v= .int .i64 (inD da)),(fun _ v=>v= .agg #[.bool b9x,.slice ad9x n9x c9x,.slice ae9x m9x d9x,.bool b9y,.slice ad9y n9y c9y,.slice ae9y m9y d9y]),(fun w v=>Rr w v (dawV (inD da) (gA 60 120 la lb) (gB lb) (gA 180 360 lc ld) (gB ld)) (3300)),(fun _ v=>v= .int .i64 (inD da)),(fun _ v=>v= .agg #[.bool b9x,.slice ad9x n9x c9x,.slice ae9x m9x d9x,.bool b9y,.slice ad9y n9y c9y,.slice ae9y m9y d9y]),(fun w v=>Rr w v (dusV (inD da) (gA 60 120 la lb) (gB lb) (gA 180 360 lc ld) (gB ld)) (3300)),(fun w v=>∃g,v= .pointer (some ⟨g,0,none⟩)∧w10.heap.size≤g∧Own w g [.bool false,.slice none 0 0,.slice none 0 0]),(fun w v=>∃g,v= .pointer (some ⟨g,0,none⟩)∧w10.heap.size≤g∧Own w g [.bool false,.slice none 0 0,.slice none 0 0])] [6,7] (by decide+kernel) (by decide+kernel) rfl rfl rfl ⟨(Mb.eq _),(Mb.eq _),(fun _ _ _ h hb=>h.below hb),(Mb.eq _),(Mb.eq _),(fun _ _ _ h hb=>h.below hb),(fun _ _ _ ⟨g,e,l,o⟩ hb=>⟨g,e,l,o.below hb⟩),(fun _ _ _ ⟨g,e,l,o⟩ hb=>⟨g,e,l,o.below hb⟩),trivial⟩ ⟨fun _ _ ⟨g,e,_,o⟩=>⟨g,e,o.lt⟩,⟨fun _ _ ⟨g,e,_,o⟩=>⟨g,e,o.lt⟩,trivial⟩⟩ ⟨?_,?_,?_,?_,?_,?_,?_,?_,trivial⟩ ?_
 ·intro a' w' hF' hb hd
  exact dv0 (r_move (hF'.at 9 rfl)) rfl rfl rfl
 ·intro a' w' hF' hb hd
  exact dv0 (r_load (hF'.at 0 rfl) (ld_all ty_RPl ((st.bk 0 rfl).below hb) rfl)) rfl rfl rfl
 ·intro a' w' hF' hb hd
  have e27:=sHe hd 0 27 rfl rfl rfl rfl
  have e28:=sHe hd 1 28 rfl rfl rfl rfl
  exact dc0 (r_call Tryz.func30 en30.1 en30.2 (map2 e27 e28)) (rDawn14_any (inD da) _ ((((gA 60 120 la lb:Int):Rat)/((gB lb:Int):Rat))) _ _ ((st.f 0 rfl).below hb) (lim64q (n:=gA 60 120 la lb) (d:=gB lb) (by omega) (by omega) (by omega) (by omega)) (lim64q (n:=gA 180 360 lc ld) (d:=gB ld) (by omega) (by omega) (by omega) (by omega)) (by omega) (by omega)) rfl rfl
 ·intro a' w' hF' hb hd
  exact dv0 (r_move (hF'.at 9 rfl)) rfl rfl rfl
 ·intro a' w' hF' hb hd
  exact dv0 (r_load (hF'.at 0 rfl) (ld_all ty_RPl ((st.bk 0 rfl).below hb) rfl)) rfl rfl rfl
 ·intro a' w' hF' hb hd
  have e30:=sHe hd 0 30 rfl rfl rfl rfl
  have e31:=sHe hd 1 31 rfl rfl rfl rfl
  exact dc0 (r_call Tryz.func31 en31.1 en31.2 (map2 e30 e31)) (rDusk14_any (inD da) _ ((((gA 60 120 la lb:Int):Rat)/((gB lb:Int):Rat))) _ _ ((st.f 0 rfl).below hb) (lim64q (n:=gA 60 120 la lb) (d:=gB lb) (by omega) (by omega) (by omega) (by omega)) (lim64q (n:=gA 180 360 lc ld) (d:=gB ld) (by omega) (by omega) (by omega) (by omega)) (by omega) (by omega)) rfl rfl
 ·intro a' w' hF' hb hd
  exact da0 ty_RRat rfl hb.size rfl
 ·intro a' w' hF' hb hd
  exact da0 ty_RRat rfl hb.size rfl
 intro a w11 hF bb hall hne
 have s0:=st
 replace st:=st.to bb
 obtain⟨vv12,e29,hh13⟩:=sS hall 2 29 rfl rfl
 replace st:=st.add hh13 (Rr.cl _)
 clear hh13
 obtain⟨vv14,e32,hh15⟩:=sS hall 5 32 rfl rfl
 replace st:=st.add hh15 (Rr.cl _)
 clear hh15
 obtain⟨_,e14,g14,rfl,ge14,o14⟩:=sS hall 6 14 rfl rfl
 replace st:=st.push o14.blk (Nat.le_trans s0.bel.size ge14) (s0.ne ge14)
 clear o14
 obtain⟨_,e15,g15,rfl,ge15,o15⟩:=sS hall 7 15 rfl rfl
 replace st:=st.push o15.blk (Nat.le_trans s0.bel.size ge15) (ne_cons (fun(e:g14=g15)=>hne 6 7 14 15 rfl rfl (by decide) rfl rfl (by rw[e14,e15,e])) (s0.ne ge15))
 clear o15
 clear hall hne bb s0
 obtain⟨b16,ad16,n16,c16,ae16,m16,d16,rfl⟩:=Rr.form (st.f 1 rfl)
 replace hF:=hF.add e29
 clear e29
 obtain⟨b17,ad17,n17,c17,ae17,m17,d17,rfl⟩:=Rr.form (st.f 0 rfl)
 replace hF:=hF.add e32
 clear e32
 replace hF:=hF.add e14
 clear e14
 replace hF:=hF.add e15
 clear e15
 refine S.sto st hF 1 rfl (hF.at 1 rfl) (hF.at 3 rfl) ty_RRat rfl rfl rfl rfl fun w18 a st hF=>?_
 refine S.sto st hF 0 rfl (hF.at 0 rfl) (hF.at 2 rfl) ty_RRat rfl rfl rfl rfl fun w19 a st hF=>?_
 refine E.nil ?_
 refine wp_seq ?_
 refine E.drawn 32 mixed hF [33,34,35,36,37,38,39,40,41,42,43,44,45,46,47,48,49,50,51,52,53,54,55,56,57,58,59,60,61,62,63,64] [(fun _ v=>v= .int .i64 (inD da)),(fun _ v=>v= .agg #[.int .i64 (gA 60 120 la lb),.int .i64 (gB lb),.int .i64 (gA 180 360 lc ld),.int .i64 (gB ld)]),(fun w v=>Rq w v (dawV (inD da) (gA 60 120 la lb) (gB lb) (gA 180 360 lc ld) (gB ld))),(fun _ v=>v= .agg #[.bool b16,.slice ad16 n16 c16,.slice ae16 m16 d16]),(fun _ v=>v= .int .i64 0),(fun _ v=>v= .bool true),(fun _ v=>v= .bool true),(fun _ v=>v= .int .i64 (inD da)),(fun _ v=>v= .agg #[.int .i64 (gA 60 120 la lb),.int .i64 (gB lb),.int .i64 (gA 180 360 lc ld),.int .i64 (gB ld)]),(fun w v=>Rq w v (dusV (inD da) (gA 60 120 la lb) (gB lb) (gA 180 360 lc ld) (gB ld))),(fun _ v=>v= .agg #[.bool b17,.slice ad17 n17 c17,.slice ae17 m17 d17]),(fun _ v=>v= .int .i64 0),(fun _ v=>v= .bool true),(fun _ v=>v= .bool true),(fun _ v=>v= .bool true),(fun _ v=>v= .int .i64 (inD da)),(fun _ v=>v= .agg #[.int .i64 (gA 60 120 la lb),.int .i64 (gB lb),.int .i64 (gA 180 360 lc ld),.int .i64 (gB ld)]),(fun w v=>Rq w v (grainV (dawV (inD da) (gA 60 120 la lb) (gB lb) (gA 180 360 lc ld) (gB ld)))),(fun _ v=>v= .agg #[.bool b16,.slice ad16 n16 c16,.slice ae16 m16 d16]),(fun w v=>Rr w v (grainV (dawV (inD da) (gA 60 120 la lb) (gB lb) (gA 180 360 lc ld) (gB ld))) ((90+20))),(fun _ v=>v= .int .i64 0),(fun _ v=>v= .bool true),(fun _ v=>v= .bool true),(fun _ v=>v= .bool true),(fun _ v=>v= .int .i64 (inD da)),(fun _ v=>v= .agg #[.int .i64 (gA 60 120 la lb),.int .i64 (gB lb),.int .i64 (gA 180 360 lc ld),.int .i64 (gB ld)]),(fun w v=>Rq w v (grainV (dusV (inD da) (gA 60 120 la lb) (gB lb) (gA 180 360 lc ld) (gB ld)))),(fun _ v=>v= .agg #[.bool b17,.slice ad17 n17 c17,.slice ae17 m17 d17]),(fun w v=>Rr w v (grainV (dusV (inD da) (gA 60 120 la lb) (gB lb) (gA 180 360 lc ld) (gB ld))) ((90+20))),(fun _ v=>v= .int .i64 0),(fun _ v=>v= .bool true),(fun _ v=>v= .bool true)] [] (by decide+kernel) (by decide+kernel) rfl rfl rfl ⟨(Mb.eq _),(Mb.eq _),(fun _ _ _ h hb=>h.below hb),(Mb.eq _),(Mb.eq _),(Mb.eq _),(Mb.eq _),(Mb.eq _),(Mb.eq _),(fun _ _ _ h hb=>h.below hb),(Mb.eq _),(Mb.eq _),(Mb.eq _),(Mb.eq _),(Mb.eq _),(Mb.eq _),(Mb.eq _),(fun _ _ _ h hb=>h.below hb),(Mb.eq _),(fun _ _ _ h hb=>h.below hb),(Mb.eq _),(Mb.eq _),(Mb.eq _),(Mb.eq _),(Mb.eq _),(Mb.eq _),(fun _ _ _ h hb=>h.below hb),(Mb.eq _),(fun _ _ _ h hb=>h.below hb),(Mb.eq _),(Mb.eq _),(Mb.eq _),trivial⟩ trivial ⟨?_,?_,?_,?_,?_,?_,?_,?_,?_,?_,?_,?_,?_,?_,?_,?_,?_,?_,?_,?_,?_,?_,?_,?_,?_,?_,?_,?_,?_,?_,?_,?_,trivial⟩ ?_
 ·intro a' w' hF' hb hd
  exact dv0 (r_move (hF'.at 13 rfl)) rfl rfl rfl
 ·intro a' w' hF' hb hd
  exact dv0 (r_load (hF'.at 7 rfl) (ld_all ty_Plc ((st.bk 3 rfl).below hb) rfl)) rfl rfl rfl
 ·intro a' w' hF' hb hd
  have e33:=sHe hd 0 33 rfl rfl rfl rfl
  have e34:=sHe hd 1 34 rfl rfl rfl rfl
  exact dc0 (r_call Tryz.func32 en32.1 en32.2 (map2 e33 e34)) (reDawn_any (inD da) (gA 60 120 la lb) (gB lb) (gA 180 360 lc ld) (gB ld) _ (hT.below (below_to st.bel hb)) (by first|assumption|exact⟨by omega,by omega,by omega,by omega,by omega,by omega,by omega,by omega⟩) (by omega) (by omega)) rfl rfl
 ·intro a' w' hF' hb hd
  exact dv0 (r_load (hF'.at 1 rfl) (ld_all ty_RRat ((st.bk 1 rfl).below hb) rfl)) rfl rfl rfl
 ·intro a' w' hF' hb hd
  obtain⟨v35_0,e35,h35_1⟩:=sH hd 0 35 rfl rfl rfl rfl
  have e36:=sHe hd 1 36 rfl rfl rfl rfl
  exact dcx0 (r_call Tryz.func13 en13.1 en13.2 (map2 e35 e36)) (Is5_any _ _ _ _ 90 3300 _ h35_1 ((st.f 1 rfl).below hb) (daw_lim (by first|assumption|exact⟨by omega,by omega,by omega,by omega,by omega,by omega,by omega,by omega⟩) (by omega) (by omega)) rfl (by omega) (by omega)) (fun _=>rfl) rfl rfl
 ·intro a' w' hF' hb hd
  have e37:=sHe hd 0 37 rfl rfl rfl rfl
  exact dv0 (r_bin e37 ev_c eg_scalar (bi_int (ic_eql (c:=true) (by decide)) (by simp))) rfl rfl rfl
 ·intro a' w' hF' hb hd
  have e38:=sHe hd 0 38 rfl rfl rfl rfl
  exact dv0 (r_move e38) rfl rfl rfl
 ·intro a' w' hF' hb hd
  have e39:=sHe hd 0 39 rfl rfl rfl rfl
  exact dv1 (wanted_by rfl rfl e39 rfl) (r_move (hF'.at 13 rfl)) rfl rfl
 ·intro a' w' hF' hb hd
  have e39:=sHe hd 0 39 rfl rfl rfl rfl
  exact dv1 (wanted_by rfl rfl e39 rfl) (r_load (hF'.at 7 rfl) (ld_all ty_Plc ((st.bk 3 rfl).below hb) rfl)) rfl rfl
 ·intro a' w' hF' hb hd
  have e39:=sHe hd 2 39 rfl rfl rfl rfl
  have e40:=sHe hd 0 40 rfl rfl rfl rfl
  have e41:=sHe hd 1 41 rfl rfl rfl rfl
  exact dc1 (wanted_by rfl rfl e39 rfl) (r_call Tryz.func33 en33.1 en33.2 (map2 e40 e41)) (reDusk_any (inD da) (gA 60 120 la lb) (gB lb) (gA 180 360 lc ld) (gB ld) _ (hT.below (below_to st.bel hb)) (by first|assumption|exact⟨by omega,by omega,by omega,by omega,by omega,by omega,by omega,by omega⟩) (by omega) (by omega)) rfl
 ·intro a' w' hF' hb hd
  have e39:=sHe hd 0 39 rfl rfl rfl rfl
  exact dv1 (wanted_by rfl rfl e39 rfl) (r_load (hF'.at 0 rfl) (ld_all ty_RRat ((st.bk 0 rfl).below hb) rfl)) rfl rfl
 ·intro a' w' hF' hb hd
  have e39:=sHe hd 3 39 rfl rfl rfl rfl
  obtain⟨v42_0,e42,h42_1⟩:=sH hd 0 42 rfl rfl rfl rfl
  have e43:=sHe hd 1 43 rfl rfl rfl rfl
  exact dcx1 (wanted_by rfl rfl e39 rfl) (r_call Tryz.func13 en13.1 en13.2 (map2 e42 e43)) (Is5_any _ _ _ _ 90 3300 _ h42_1 ((st.f 0 rfl).below hb) (dus_lim (by first|assumption|exact⟨by omega,by omega,by omega,by omega,by omega,by omega,by omega,by omega⟩) (by omega) (by omega)) rfl (by omega) (by omega)) (fun _=>rfl) rfl
 ·intro a' w' hF' hb hd
  have e39:=sHe hd 1 39 rfl rfl rfl rfl
  have e44:=sHe hd 0 44 rfl rfl rfl rfl
  exact dv1 (wanted_by rfl rfl e39 rfl) (r_bin e44 ev_c eg_scalar (bi_int (ic_eql (c:=true) (by decide)) (by simp))) rfl rfl
 ·intro a' w' hF' hb hd
  have e39:=sHe hd 0 39 rfl rfl rfl rfl
  have e45:=sHe hd 1 45 rfl rfl rfl rfl
  exact dv0 (r_pick_t e39 e45) rfl rfl rfl
 ·intro a' w' hF' hb hd
  have e46:=sHe hd 0 46 rfl rfl rfl rfl
  exact dv0 (r_move e46) rfl rfl rfl
 ·intro a' w' hF' hb hd
  have e47:=sHe hd 0 47 rfl rfl rfl rfl
  exact dv1 (wanted_by rfl rfl e47 rfl) (r_move (hF'.at 13 rfl)) rfl rfl
 ·intro a' w' hF' hb hd
  have e47:=sHe hd 0 47 rfl rfl rfl rfl
  exact dv1 (wanted_by rfl rfl e47 rfl) (r_load (hF'.at 7 rfl) (ld_all ty_Plc ((st.bk 3 rfl).below hb) rfl)) rfl rfl
 ·intro a' w' hF' hb hd
  have e47:=sHe hd 2 47 rfl rfl rfl rfl
  have e48:=sHe hd 0 48 rfl rfl rfl rfl
  have e49:=sHe hd 1 49 rfl rfl rfl rfl
  exact dc1 (wanted_by rfl rfl e47 rfl) (r_call Tryz.func34 en34.1 en34.2 (map2 e48 e49)) (reSunrise_any (inD da) (gA 60 120 la lb) (gB lb) (gA 180 360 lc ld) (gB ld) _ (hT.below (below_to st.bel hb)) (by first|assumption|exact⟨by omega,by omega,by omega,by omega,by omega,by omega,by omega,by omega⟩) (by omega) (by omega)) rfl
 ·intro a' w' hF' hb hd
  have e47:=sHe hd 0 47 rfl rfl rfl rfl
  exact dv1 (wanted_by rfl rfl e47 rfl) (r_load (hF'.at 1 rfl) (ld_all ty_RRat ((st.bk 1 rfl).below hb) rfl)) rfl rfl
 ·intro a' w' hF' hb hd
  have e47:=sHe hd 2 47 rfl rfl rfl rfl
  have e51:=sHe hd 0 51 rfl rfl rfl rfl
  exact dc1 (wanted_by rfl rfl e47 rfl) (r_call Tryz.func28 en28.1 en28.2 (map1 e51)) (rGrain14_any _ _ 3300 90 _ ((st.f 1 rfl).below hb) (daw_lim (by first|assumption|exact⟨by omega,by omega,by omega,by omega,by omega,by omega,by omega,by omega⟩) (by omega) (by omega)) (by omega) (by omega) (by omega)) rfl
 ·intro a' w' hF' hb hd
  have e47:=sHe hd 3 47 rfl rfl rfl rfl
  obtain⟨v50_0,e50,h50_1⟩:=sH hd 0 50 rfl rfl rfl rfl
  obtain⟨v52_0,e52,h52_1⟩:=sH hd 1 52 rfl rfl rfl rfl
  exact dcx1 (wanted_by rfl rfl e47 rfl) (r_call Tryz.func13 en13.1 en13.2 (map2 e50 e52)) (Is5_any _ _ _ _ 3 (90+20) _ h50_1 h52_1 (sunr_lim (by first|assumption|exact⟨by omega,by omega,by omega,by omega,by omega,by omega,by omega,by omega⟩) (by omega) (by omega)) rfl (by omega) (by omega)) (fun _=>rfl) rfl
 ·intro a' w' hF' hb hd
  have e47:=sHe hd 1 47 rfl rfl rfl rfl
  have e53:=sHe hd 0 53 rfl rfl rfl rfl
  exact dv1 (wanted_by rfl rfl e47 rfl) (r_bin e53 ev_c eg_scalar (bi_int (ic_eql (c:=true) (by decide)) (by simp))) rfl rfl
 ·intro a' w' hF' hb hd
  have e47:=sHe hd 0 47 rfl rfl rfl rfl
  have e54:=sHe hd 1 54 rfl rfl rfl rfl
  exact dv0 (r_pick_t e47 e54) rfl rfl rfl
 ·intro a' w' hF' hb hd
  have e55:=sHe hd 0 55 rfl rfl rfl rfl
  exact dv0 (r_move e55) rfl rfl rfl
 ·intro a' w' hF' hb hd
  have e56:=sHe hd 0 56 rfl rfl rfl rfl
  exact dv1 (wanted_by rfl rfl e56 rfl) (r_move (hF'.at 13 rfl)) rfl rfl
 ·intro a' w' hF' hb hd
  have e56:=sHe hd 0 56 rfl rfl rfl rfl
  exact dv1 (wanted_by rfl rfl e56 rfl) (r_load (hF'.at 7 rfl) (ld_all ty_Plc ((st.bk 3 rfl).below hb) rfl)) rfl rfl
 ·intro a' w' hF' hb hd
  have e56:=sHe hd 2 56 rfl rfl rfl rfl
  have e57:=sHe hd 0 57 rfl rfl rfl rfl
  have e58:=sHe hd 1 58 rfl rfl rfl rfl
  exact dc1 (wanted_by rfl rfl e56 rfl) (r_call Tryz.func35 en35.1 en35.2 (map2 e57 e58)) (reSunset_any (inD da) (gA 60 120 la lb) (gB lb) (gA 180 360 lc ld) (gB ld) _ (hT.below (below_to st.bel hb)) (by first|assumption|exact⟨by omega,by omega,by omega,by omega,by omega,by omega,by omega,by omega⟩) (by omega) (by omega)) rfl
 ·intro a' w' hF' hb hd
  have e56:=sHe hd 0 56 rfl rfl rfl rfl
  exact dv1 (wanted_by rfl rfl e56 rfl) (r_load (hF'.at 0 rfl) (ld_all ty_RRat ((st.bk 0 rfl).below hb) rfl)) rfl rfl
 ·intro a' w' hF' hb hd
  have e56:=sHe hd 2 56 rfl rfl rfl rfl
  have e60:=sHe hd 0 60 rfl rfl rfl rfl
  exact dc1 (wanted_by rfl rfl e56 rfl) (r_call Tryz.func28 en28.1 en28.2 (map1 e60)) (rGrain14_any _ _ 3300 90 _ ((st.f 0 rfl).below hb) (dus_lim (by first|assumption|exact⟨by omega,by omega,by omega,by omega,by omega,by omega,by omega,by omega⟩) (by omega) (by omega)) (by omega) (by omega) (by omega)) rfl
 ·intro a' w' hF' hb hd
  have e56:=sHe hd 3 56 rfl rfl rfl rfl
  obtain⟨v59_0,e59,h59_1⟩:=sH hd 0 59 rfl rfl rfl rfl
  obtain⟨v61_0,e61,h61_1⟩:=sH hd 1 61 rfl rfl rfl rfl
  exact dcx1 (wanted_by rfl rfl e56 rfl) (r_call Tryz.func13 en13.1 en13.2 (map2 e59 e61)) (Is5_any _ _ _ _ 3 (90+20) _ h59_1 h61_1 (suns_lim (by first|assumption|exact⟨by omega,by omega,by omega,by omega,by omega,by omega,by omega,by omega⟩) (by omega) (by omega)) rfl (by omega) (by omega)) (fun _=>rfl) rfl
 ·intro a' w' hF' hb hd
  have e56:=sHe hd 1 56 rfl rfl rfl rfl
  have e62:=sHe hd 0 62 rfl rfl rfl rfl
  exact dv1 (wanted_by rfl rfl e56 rfl) (r_bin e62 ev_c eg_scalar (bi_int (ic_eql (c:=true) (by decide)) (by simp))) rfl rfl
 ·intro a' w' hF' hb hd
  have e56:=sHe hd 0 56 rfl rfl rfl rfl
  have e63:=sHe hd 1 63 rfl rfl rfl rfl
  exact dv0 (r_pick_t e56 e63) rfl rfl rfl
 intro a w20 hF bb hall hne
 replace st:=st.to bb
 have e64:=sSe hall 31 64 rfl rfl
 clear hall hne bb
 replace hF:=hF.add e64
 clear e64
 refine E.opset (L':=[(10,.bool true),(64,.bool true),(15,.pointer (some ⟨g15,0,none⟩)),(14,.pointer (some ⟨g14,0,none⟩)),(32,.agg #[.bool b17,.slice ad17 n17 c17,.slice ae17 m17 d17]),(29,.agg #[.bool b16,.slice ad16 n16 c16,.slice ae16 m16 d16]),(13,.pointer (some ⟨g13,0,none⟩)),(26,.agg #[.bool b9x,.slice ad9x n9x c9x,.slice ae9x m9x d9x,.bool b9y,.slice ad9y n9y c9y,.slice ae9y m9y d9y]),(25,.agg #[.int .i64 (gA 60 120 la lb),.int .i64 (gB lb),.int .i64 (gA 180 360 lc ld),.int .i64 (gB ld)]),(12,.pointer (some ⟨g12,0,none⟩)),(24,.agg #[.int .i64 (gA 60 120 la lb),.int .i64 (gB lb),.int .i64 (gA 180 360 lc ld),.int .i64 (gB ld)]),(23,.int .i64 ld),(22,.int .i64 lc),(21,.int .i64 lb),(20,.int .i64 la),(11,.int .i64 (inD da)),(19,.int .i64 (inD da)),(18,.int .i64 da),(17,.bool false),(16,.bool true),(0,.int .i64 da),(1,.int .i64 la),(2,.int .i64 lb),(3,.int .i64 lc),(4,.int .i64 ld)]) hF (r_assign (hF.at 0 rfl)) rfl rfl rfl rfl fun a hF=>?_
 refine E.nil ?_
 refine wp_ret ?_
 have bel:=st.bel
 refine bodyPost_ret (res_tmp Tryz.results4 (hF.at 0 rfl)) hF.dfr ?_
 exact⟨rfl,bel⟩
end Go.Proofs.YtpkhdajnppoinaaGreatDoor
