import Derived.Test.YtpkhdajnppoinaaGreatDoorKA41
import Derived.Test.YtpkhdajnppoinaaGreatDoorKA42
namespace Go.Proofs.YtpkhdajnppoinaaGreatDoor
open Go.RowKit
set_option maxRecDepth 100000
set_option linter.unusedVariables false
set_option maxHeartbeats 8000000
theorem dawV_next (n a b c d:Int):dawV (n+1) a b c d=bothV (((n:Int):Rat)+((1:Int):Rat)) (((a:Int):Rat)/((b:Int):Rat)) (((c:Int):Rat)/((d:Int):Rat)) 1 1:=by unfold dawV;rw[Rat.intCast_add]
theorem steps_ok {n a b c d:Int} (h:PlOk a b c d):
 (((98:Int):Rat)/((100:Int):Rat)<grainV (dawV (n+1) a b c d)-grainV (dawV n a b c d)∧grainV (dawV (n+1) a b c d)-grainV (dawV n a b c d)<((102:Int):Rat)/((100:Int):Rat))∧
 ((2:Int):Rat)/((10:Int):Rat)<grainV (dusV n a b c d)-grainV (dawV n a b c d)∧grainV (dusV n a b c d)-grainV (dawV n a b c d)<((8:Int):Rat)/((10:Int):Rat):=by
 have s:=steps_law ((n:Int):Rat) (((c:Int):Rat)/((d:Int):Rat)) h.la.1 h.la.2
 rw[dawV_next]
 rw[show((98:Int):Rat)/((100:Int):Rat)=98/100 by decide+kernel,show((102:Int):Rat)/((100:Int):Rat)=102/100 by decide+kernel,show((2:Int):Rat)/((10:Int):Rat)=2/10 by decide+kernel,show((8:Int):Rat)/((10:Int):Rat)=8/10 by decide+kernel]
 exact s
theorem diff_flatb (t:Rat) (b:Int):diffV t (((0:Int):Rat)/((b:Int):Rat))=0:=by
 rw[show((0:Int):Rat)/((b:Int):Rat)=0 by rw[Rat.intCast_zero,Rat.div_def,Rat.zero_mul]];exact diff_flat _
theorem noon_ok {n a b c d:Int} (h:PlOk a b c d):
 ((grainV (dawV n a b c d)+grainV (dusV n a b c d))*(((1:Int):Rat)/((2:Int):Rat))-(((n:Int):Rat)+((1:Int):Rat)/((2:Int):Rat)+(((45461:Int):Rat)/((600:Int):Rat)-((c:Int):Rat)/((d:Int):Rat))/((360:Int):Rat))).abs ≤((1:Int):Rat)/((100:Int):Rat)∧
 (grainV (dusV n a b c d)-grainV (dawV n a b c d)+(grainV (dusV n (-a) b c d)-grainV (dawV n (-a) b c d))-((1:Int):Rat)).abs ≤((1:Int):Rat)/((300:Int):Rat):=by
 have s:=noon_law ((n:Int):Rat) (((c:Int):Rat)/((d:Int):Rat)) h.la.1 h.la.2
 have e:((-a:Int):Rat)/((b:Int):Rat)= -(((a:Int):Rat)/((b:Int):Rat)):=by rw[Rat.intCast_neg,Rat.div_def,Rat.div_def,Rat.neg_mul]
 have e2:(((45461:Int):Rat)/((600:Int):Rat)-((c:Int):Rat)/((d:Int):Rat))/((360:Int):Rat)=eastV (((c:Int):Rat)/((d:Int):Rat)):=by
  unfold eastV
  rw[Rat.div_def _ ((360:Int):Rat),show((1:Int):Rat)/((360:Int):Rat)=((360:Int):Rat)⁻¹ by decide+kernel]
 unfold dusV dawV
 rw[e,e2,show((1:Int):Rat)/((2:Int):Rat)=1/2 by decide+kernel,show((1:Int):Rat)/((100:Int):Rat)=1/100 by decide+kernel,show((1:Int):Rat)/((300:Int):Rat)=1/300 by decide+kernel,Rat.intCast_one]
 exact s
theorem dawE (n a b c d c' d':Int):dawV n a b c d-dawV n a b c' d'=(((c':Int):Rat)/((d':Int):Rat)-((c:Int):Rat)/((d:Int):Rat))/((360:Int):Rat):=by unfold dawV;exact east_law _ _ _ _ _ _
theorem dusE (n a b c d c' d':Int):dusV n a b c d-dusV n a b c' d'=(((c':Int):Rat)/((d':Int):Rat)-((c:Int):Rat)/((d:Int):Rat))/((360:Int):Rat):=by unfold dusV;exact east_law _ _ _ _ _ _
theorem qc_le0t14 {p q:Rat} (h:p≤q):qc p q≤0:=by
 rw[qc_def]
 split
 ·decide
 ·split
  ·grind
  ·decide
theorem oBits_any (v1:Value) (q1:Rat) (w:World) (h1:Rq w v1 q1):
 Calls Tryz.prog 44 #[v1] w (ValPost w (.int .i64 (max ((dl 2 (Int.natAbs (Rat.num q1)):Nat):Int) ((dl 2 (Rat.den q1):Nat):Int)))):=by
 obtain⟨b1,ad1,n1,c1,ae1,m1,d1,rfl,hn1,hd1⟩:=h1.shape
 have h1:Rq w (.agg #[.bool b1,.slice ad1 n1 c1,.slice ae1 m1 d1]) q1:=⟨_,_,_,_,_,_,_,rfl,hn1,hd1⟩
 have ha1:=hn1.abs
 have hb1:=hn1.neg
 have bel:Below w.heap.size w w:=Below.refl _ _
 refine E.enter (nt:=11) (L:=[(0,.agg #[.bool b1,.slice ad1 n1 c1,.slice ae1 m1 d1])]) Tryz.func44 rfl rfl rfl (args_cons (i:=0) rfl args_nil) ?_
 intro a hF
 refine wp_seq ?_
 refine E.seq ?_
 obtain⟨g1,w1,ge1,hr,bb,o1⟩:=own_box (P:=Tryz.prog) (w:=w) (cs:=[.bool b1,.slice ad1 n1 c1,.slice ae1 m1 d1]) (v:= .agg #[.bool b1,.slice ad1 n1 c1,.slice ae1 m1 d1]) 32 rfl (niB (niS (niS ni0)))
 replace ge1:w.heap.size≤g1:=by rw[←ge1];exact bel.size
 refine E.opv hF (r_box (hF.at 0 rfl) hr) rfl rfl rfl rfl fun a hF=>?_
 clear hr
 replace bel:=below_to bel bb
 clear bb
 refine E.opv hF (r_assign ev_c) rfl rfl rfl rfl fun a hF=>?_
 refine E.nil ?_
 refine wp_seq ?_
 refine E.drawn 8 mixed hF [3,4,5,6,7,8,9,10] [(fun _ v=>v= .agg #[.bool b1,.slice ad1 n1 c1,.slice ae1 m1 d1]),(fun w v=>Wc w v (Rat.num (q1))),(fun w v=>Dg w .u32 B32 v (Int.natAbs (Rat.num (q1)))),(fun _ v=>v= .int .i64 (dl 2 (Int.natAbs (Rat.num (q1))):Nat)),(fun _ v=>v= .agg #[.bool b1,.slice ad1 n1 c1,.slice ae1 m1 d1]),(fun w v=>Dg w .u32 B32 v (Rat.den (q1))),(fun _ v=>v= .int .i64 (dl 2 (Rat.den (q1)):Nat)),(fun _ v=>v= .int .i64 (max (dl 2 (Int.natAbs (Rat.num (q1))):Nat) (dl 2 (Rat.den (q1)):Nat)))] [] (by decide+kernel) (by decide+kernel) rfl rfl rfl ⟨(Mb.eq _),(fun _ _ _ h hb=>h.below hb),(fun _ _ _ h hb=>h.below hb),(Mb.eq _),(Mb.eq _),(fun _ _ _ h hb=>h.below hb),(Mb.eq _),(Mb.eq _),trivial⟩ trivial ⟨?_,?_,?_,?_,?_,?_,?_,?_,trivial⟩ ?_
 ·intro a' w' hF' hb hd
  exact dv0 (r_load (hF'.at 1 rfl) (ld_Rat (vs:=[.bool b1,.slice ad1 n1 c1,.slice ae1 m1 d1]) (o1.below hb) rfl rfl)) rfl rfl rfl
 ·intro a' w' hF' hb hd
  have e3:=sHe hd 0 3 rfl rfl rfl rfl
  exact dc0 (r_call Tryz.func59 en59.1 en59.2 (map1 e3)) (rnum_any _ (q1) _ (h1.below (below_to bel hb))) rfl rfl
 ·intro a' w' hF' hb hd
  obtain⟨v4_0,e4,h4_1⟩:=sH hd 0 4 rfl rfl rfl rfl
  obtain⟨ad2,n2,c2,rfl,_⟩:=Wc.shape h4_1
  have hf3:=Wc.abs h4_1
  exact dv0 (r_fieldv e4 (fv_Int_1 _ _ _ _ _)) hf3 rfl rfl
 ·intro a' w' hF' hb hd
  obtain⟨v5,e5,h5⟩:=sH hd 0 5 rfl rfl rfl rfl
  refine if_does (wanted_free rfl) (Does.calls (r_call Tryz.func61 en61.1 en61.2 (map1 e5)) (bits_any _ (Int.natAbs (Rat.num (q1))) _ (Dg.nt h5)) ?_)
  rintro e w'' ⟨rfl,hw⟩
  exact⟨_,rfl,rfl,by rw[hw];exact Below.refl _ _,(fun h=>absurd h (by decide))⟩
 ·intro a' w' hF' hb hd
  exact dv0 (r_load (hF'.at 1 rfl) (ld_Rat (vs:=[.bool b1,.slice ad1 n1 c1,.slice ae1 m1 d1]) (o1.below hb) rfl rfl)) rfl rfl rfl
 ·intro a' w' hF' hb hd
  have e7:=sHe hd 0 7 rfl rfl rfl rfl
  exact dc0 (r_call Tryz.func60 en60.1 en60.2 (map1 e7)) (rden_any _ (q1) _ (h1.below (below_to bel hb))) rfl rfl
 ·intro a' w' hF' hb hd
  obtain⟨v8_0,e8,h8_1⟩:=sH hd 0 8 rfl rfl rfl rfl
  refine if_does (wanted_free rfl) (Does.calls (r_call Tryz.func61 en61.1 en61.2 (map1 e8)) (bits_any _ (Rat.den (q1)) _ (Dg.nt h8_1)) ?_)
  rintro e w'' ⟨rfl,hw⟩
  exact⟨_,rfl,rfl,by rw[hw];exact Below.refl _ _,(fun h=>absurd h (by decide))⟩
 ·intro a' w' hF' hb hd
  have e6:=sHe hd 0 6 rfl rfl rfl rfl
  have e9:=sHe hd 1 9 rfl rfl rfl rfl
  exact dv0 (r_builtin (map2 e6 e9) bl_max) rfl rfl rfl
 intro a w4 hF bb hall hne
 have e10:=sSe hall 7 10 rfl rfl
 clear hall hne
 replace bel:=below_to bel bb
 clear bb
 replace hF:=hF.add e10
 clear e10
 refine E.opset (L':=[(2,.int .i64 (max (dl 2 (Int.natAbs (Rat.num (q1))):Nat) (dl 2 (Rat.den (q1)):Nat))),(10,.int .i64 (max (dl 2 (Int.natAbs (Rat.num (q1))):Nat) (dl 2 (Rat.den (q1)):Nat))),(1,.pointer (some ⟨g1,0,none⟩)),(0,.agg #[.bool b1,.slice ad1 n1 c1,.slice ae1 m1 d1])]) hF (r_assign (hF.at 0 rfl)) rfl rfl rfl rfl fun a hF=>?_
 refine E.nil ?_
 refine wp_ret ?_
 refine bodyPost_ret (res_tmp Tryz.results44 (hF.at 0 rfl)) hF.dfr ?_
 exact⟨rfl,bel⟩
theorem riseSteps_walk (da la lb lc ld:Int) (w:World) (hT:TabD w):
 Calls Tryz.prog 5 #[.int .i64 da,.int .i64 la,.int .i64 lb,.int .i64 lc,.int .i64 ld] w (ValPost w (.bool true)):=by
 have st:=St.start w
 refine E.enter (nt:=65) (L:=[(0,.int .i64 da),(1,.int .i64 la),(2,.int .i64 lb),(3,.int .i64 lc),(4,.int .i64 ld)]) Tryz.func5 rfl rfl rfl (args_cons (i:=0) rfl (args_cons (i:=1) rfl (args_cons (i:=2) rfl (args_cons (i:=3) rfl (args_cons (i:=4) rfl args_nil))))) ?_
 intro a hF
 refine wp_seq ?_
 refine E.seq ?_
 refine E.opv hF (r_assign ev_c) rfl rfl rfl rfl fun a hF=>?_
 refine E.nil ?_
 refine wp_seq ?_
 refine wp_seq ?_
 refine E.seq ?_
 refine S.callx st hF (r_call Tryz.func9 en9.1 en9.2 map0) (awake14_any _ (hT.below st.bel)) rfl rfl rfl rfl fun w1 a st hF=>?_
 refine E.opv hF (r_un (hF.at 0 rfl) (bn_not _ false rfl)) rfl rfl rfl rfl fun a hF=>?_
 refine E.nil ?_
 refine wp_cond_false (hF.at 0 rfl) ?_
 refine wp_skip ?_
 refine E.norm ?_
 refine wp_seq ?_
 refine E.seq ?_
 refine E.opv hF (r_move (hF.at 3 rfl)) rfl rfl rfl rfl fun a hF=>?_
 refine S.callx st hF (r_call Tryz.func29 en29.1 en29.2 (map1 (hF.at 0 rfl))) (inD_any da _) rfl rfl rfl rfl fun w2 a st hF=>?_
 have hin:=inD_bd da
 refine E.opv hF (r_assign (hF.at 0 rfl)) rfl rfl rfl rfl fun a hF=>?_
 refine E.nil ?_
 refine wp_seq ?_
 refine E.seq ?_
 refine E.opv hF (r_move (hF.at 7 rfl)) rfl rfl rfl rfl fun a hF=>?_
 refine E.opv hF (r_move (hF.at 9 rfl)) rfl rfl rfl rfl fun a hF=>?_
 refine E.opv hF (r_move (hF.at 11 rfl)) rfl rfl rfl rfl fun a hF=>?_
 refine E.opv hF (r_move (hF.at 13 rfl)) rfl rfl rfl rfl fun a hF=>?_
 refine S.callx st hF (r_call Tryz.func12 en12.1 en12.2 (map4 (hF.at 3 rfl) (hF.at 2 rfl) (hF.at 1 rfl) (hF.at 0 rfl))) (good_any la lb lc ld _) rfl rfl rfl rfl fun w3 a st hF=>?_
 have hg1:=gB_bd lb
 have hg2:=gLat_bd la lb
 have hg3:=gB_bd ld
 have hg4:=gLon_bd lc ld
 have hok5962:=good_ok la lb lc ld
 refine S.new st hF 0 rfl ty_Plc rfl rfl rfl rfl rfl fun g12 w4 a st hF=>?_
 refine E.nil ?_
 refine wp_seq ?_
 refine E.drawn 13 mixed hF [27,28,29,30,31,32,33,34,35,36,13,14,15] [(fun _ v=>v= .int .i64 (inD da)),(fun _ v=>v= .agg #[.int .i64 (gA 60 120 la lb),.int .i64 (gB lb),.int .i64 (gA 180 360 lc ld),.int .i64 (gB ld)]),(fun w v=>Rq w v (grainV (dawV (inD da) (gA 60 120 la lb) (gB lb) (gA 180 360 lc ld) (gB ld)))),(fun _ v=>v= .int .i64 (inD da)),(fun _ v=>v= .agg #[.int .i64 (gA 60 120 la lb),.int .i64 (gB lb),.int .i64 (gA 180 360 lc ld),.int .i64 (gB ld)]),(fun w v=>Rq w v (grainV (dusV (inD da) (gA 60 120 la lb) (gB lb) (gA 180 360 lc ld) (gB ld)))),(fun _ v=>v= .int .i64 (inD da)),(fun _ v=>v= .int .i64 ((inD da)+1)),(fun _ v=>v= .agg #[.int .i64 (gA 60 120 la lb),.int .i64 (gB lb),.int .i64 (gA 180 360 lc ld),.int .i64 (gB ld)]),(fun w v=>Rq w v (grainV (dawV ((inD da)+1) (gA 60 120 la lb) (gB lb) (gA 180 360 lc ld) (gB ld)))),(fun w v=>∃g,v= .pointer (some ⟨g,0,none⟩)∧w4.heap.size≤g∧Own w g [.bool false,.slice none 0 0,.slice none 0 0]),(fun w v=>∃g,v= .pointer (some ⟨g,0,none⟩)∧w4.heap.size≤g∧Own w g [.bool false,.slice none 0 0,.slice none 0 0]),(fun w v=>∃g,v= .pointer (some ⟨g,0,none⟩)∧w4.heap.size≤g∧Own w g [.bool false,.slice none 0 0,.slice none 0 0])] [10,11,12] (by decide+kernel) (by decide+kernel) rfl rfl rfl ⟨(Mb.eq _),(Mb.eq _),(fun _ _ _ h hb=>h.below hb),(Mb.eq _),(Mb.eq _),(fun _ _ _ h hb=>h.below hb),(Mb.eq _),(Mb.eq _),(Mb.eq _),(fun _ _ _ h hb=>h.below hb),(fun _ _ _ ⟨g,e,l,o⟩ hb=>⟨g,e,l,o.below hb⟩),(fun _ _ _ ⟨g,e,l,o⟩ hb=>⟨g,e,l,o.below hb⟩),(fun _ _ _ ⟨g,e,l,o⟩ hb=>⟨g,e,l,o.below hb⟩),trivial⟩ ⟨fun _ _ ⟨g,e,_,o⟩=>⟨g,e,o.lt⟩,⟨fun _ _ ⟨g,e,_,o⟩=>⟨g,e,o.lt⟩,⟨fun _ _ ⟨g,e,_,o⟩=>⟨g,e,o.lt⟩,trivial⟩⟩⟩ ⟨?_,?_,?_,?_,?_,?_,?_,?_,?_,?_,?_,?_,?_,trivial⟩ ?_
 ·intro a' w' hF' hb hd
  exact dv0 (r_move (hF'.at 6 rfl)) rfl rfl rfl
 ·intro a' w' hF' hb hd
  exact dv0 (r_load (hF'.at 0 rfl) (ld_all ty_Plc ((st.bk 0 rfl).below hb) rfl)) rfl rfl rfl
 ·intro a' w' hF' hb hd
  have e27:=sHe hd 0 27 rfl rfl rfl rfl
  have e28:=sHe hd 1 28 rfl rfl rfl rfl
  exact dc0 (r_call Tryz.func34 en34.1 en34.2 (map2 e27 e28)) (reSunrise_any (inD da) (gA 60 120 la lb) (gB lb) (gA 180 360 lc ld) (gB ld) _ (hT.below (below_to st.bel hb)) (by first|assumption|exact⟨by omega,by omega,by omega,by omega,by omega,by omega,by omega,by omega⟩) (by omega) (by omega)) rfl rfl
 ·intro a' w' hF' hb hd
  exact dv0 (r_move (hF'.at 6 rfl)) rfl rfl rfl
 ·intro a' w' hF' hb hd
  exact dv0 (r_load (hF'.at 0 rfl) (ld_all ty_Plc ((st.bk 0 rfl).below hb) rfl)) rfl rfl rfl
 ·intro a' w' hF' hb hd
  have e30:=sHe hd 0 30 rfl rfl rfl rfl
  have e31:=sHe hd 1 31 rfl rfl rfl rfl
  exact dc0 (r_call Tryz.func35 en35.1 en35.2 (map2 e30 e31)) (reSunset_any (inD da) (gA 60 120 la lb) (gB lb) (gA 180 360 lc ld) (gB ld) _ (hT.below (below_to st.bel hb)) (by first|assumption|exact⟨by omega,by omega,by omega,by omega,by omega,by omega,by omega,by omega⟩) (by omega) (by omega)) rfl rfl
 ·intro a' w' hF' hb hd
  exact dv0 (r_move (hF'.at 6 rfl)) rfl rfl rfl
 ·intro a' w' hF' hb hd
  have e33:=sHe hd 0 33 rfl rfl rfl rfl
  exact dv0 (r_bin e33 ev_c eg_scalar (ia_add (by omega) (by omega))) rfl rfl rfl
 ·intro a' w' hF' hb hd
  exact dv0 (r_load (hF'.at 0 rfl) (ld_all ty_Plc ((st.bk 0 rfl).below hb) rfl)) rfl rfl rfl
 ·intro a' w' hF' hb hd
  have e34:=sHe hd 0 34 rfl rfl rfl rfl
  have e35:=sHe hd 1 35 rfl rfl rfl rfl
  exact dc0 (r_call Tryz.func34 en34.1 en34.2 (map2 e34 e35)) (reSunrise_any ((inD da)+1) (gA 60 120 la lb) (gB lb) (gA 180 360 lc ld) (gB ld) _ (hT.below (below_to st.bel hb)) (by first|assumption|exact⟨by omega,by omega,by omega,by omega,by omega,by omega,by omega,by omega⟩) (by omega) (by omega)) rfl rfl
 ·intro a' w' hF' hb hd
  exact da0 ty_Rat rfl hb.size rfl
 ·intro a' w' hF' hb hd
  exact da0 ty_Rat rfl hb.size rfl
 ·intro a' w' hF' hb hd
  exact da0 ty_Rat rfl hb.size rfl
 intro a w5 hF bb hall hne
 have s0:=st
 replace st:=st.to bb
 obtain⟨vv6,e29,hh7⟩:=sS hall 2 29 rfl rfl
 replace st:=st.add hh7 (Rq.cl _)
 clear hh7
 obtain⟨vv8,e32,hh9⟩:=sS hall 5 32 rfl rfl
 replace st:=st.add hh9 (Rq.cl _)
 clear hh9
 obtain⟨vv10,e36,hh11⟩:=sS hall 9 36 rfl rfl
 replace st:=st.add hh11 (Rq.cl _)
 clear hh11
 obtain⟨_,e13,g13,rfl,ge13,o13⟩:=sS hall 10 13 rfl rfl
 replace st:=st.push o13.blk (Nat.le_trans s0.bel.size ge13) (s0.ne ge13)
 clear o13
 obtain⟨_,e14,g14,rfl,ge14,o14⟩:=sS hall 11 14 rfl rfl
 replace st:=st.push o14.blk (Nat.le_trans s0.bel.size ge14) (ne_cons (fun(e:g13=g14)=>hne 10 11 13 14 rfl rfl (by decide) rfl rfl (by rw[e13,e14,e])) (s0.ne ge14))
 clear o14
 obtain⟨_,e15,g15,rfl,ge15,o15⟩:=sS hall 12 15 rfl rfl
 replace st:=st.push o15.blk (Nat.le_trans s0.bel.size ge15) (ne_cons (fun(e:g14=g15)=>hne 11 12 14 15 rfl rfl (by decide) rfl rfl (by rw[e14,e15,e])) (ne_cons (fun(e:g13=g15)=>hne 10 12 13 15 rfl rfl (by decide) rfl rfl (by rw[e13,e15,e])) (s0.ne ge15)))
 clear o15
 clear hall hne bb s0
 obtain⟨b12,ad12,n12,c12,ae12,m12,d12,rfl⟩:=Rq.form (st.f 2 rfl)
 replace hF:=hF.add e29
 clear e29
 obtain⟨b13,ad13,n13,c13,ae13,m13,d13,rfl⟩:=Rq.form (st.f 1 rfl)
 replace hF:=hF.add e32
 clear e32
 obtain⟨b14,ad14,n14,c14,ae14,m14,d14,rfl⟩:=Rq.form (st.f 0 rfl)
 replace hF:=hF.add e36
 clear e36
 replace hF:=hF.add e13
 clear e13
 replace hF:=hF.add e14
 clear e14
 replace hF:=hF.add e15
 clear e15
 refine S.sto st hF 2 rfl (hF.at 2 rfl) (hF.at 5 rfl) ty_Rat rfl rfl rfl rfl fun w15 a st hF=>?_
 refine S.sto st hF 1 rfl (hF.at 1 rfl) (hF.at 4 rfl) ty_Rat rfl rfl rfl rfl fun w16 a st hF=>?_
 refine S.sto st hF 0 rfl (hF.at 0 rfl) (hF.at 3 rfl) ty_Rat rfl rfl rfl rfl fun w17 a st hF=>?_
 refine E.nil ?_
 refine wp_seq ?_
 refine E.drawn 8 mixed hF [37,38,39,40,41,42,16,17] [(fun _ v=>v= .agg #[.bool b14,.slice ad14 n14 c14,.slice ae14 m14 d14]),(fun _ v=>v= .agg #[.bool b12,.slice ad12 n12 c12,.slice ae12 m12 d12]),(fun w v=>Rq w v ((grainV (dawV ((inD da)+1) (gA 60 120 la lb) (gB lb) (gA 180 360 lc ld) (gB ld)))-(grainV (dawV (inD da) (gA 60 120 la lb) (gB lb) (gA 180 360 lc ld) (gB ld))))),(fun _ v=>v= .agg #[.bool b13,.slice ad13 n13 c13,.slice ae13 m13 d13]),(fun _ v=>v= .agg #[.bool b12,.slice ad12 n12 c12,.slice ae12 m12 d12]),(fun w v=>Rq w v ((grainV (dusV (inD da) (gA 60 120 la lb) (gB lb) (gA 180 360 lc ld) (gB ld)))-(grainV (dawV (inD da) (gA 60 120 la lb) (gB lb) (gA 180 360 lc ld) (gB ld))))),(fun w v=>∃g,v= .pointer (some ⟨g,0,none⟩)∧w17.heap.size≤g∧Own w g [.bool false,.slice none 0 0,.slice none 0 0]),(fun w v=>∃g,v= .pointer (some ⟨g,0,none⟩)∧w17.heap.size≤g∧Own w g [.bool false,.slice none 0 0,.slice none 0 0])] [6,7] (by decide+kernel) (by decide+kernel) rfl rfl rfl ⟨(Mb.eq _),(Mb.eq _),(fun _ _ _ h hb=>h.below hb),(Mb.eq _),(Mb.eq _),(fun _ _ _ h hb=>h.below hb),(fun _ _ _ ⟨g,e,l,o⟩ hb=>⟨g,e,l,o.below hb⟩),(fun _ _ _ ⟨g,e,l,o⟩ hb=>⟨g,e,l,o.below hb⟩),trivial⟩ ⟨fun _ _ ⟨g,e,_,o⟩=>⟨g,e,o.lt⟩,⟨fun _ _ ⟨g,e,_,o⟩=>⟨g,e,o.lt⟩,trivial⟩⟩ ⟨?_,?_,?_,?_,?_,?_,?_,?_,trivial⟩ ?_
 ·intro a' w' hF' hb hd
  exact dv0 (r_load (hF'.at 0 rfl) (ld_all ty_Rat ((st.bk 0 rfl).below hb) rfl)) rfl rfl rfl
 ·intro a' w' hF' hb hd
  exact dv0 (r_load (hF'.at 2 rfl) (ld_all ty_Rat ((st.bk 2 rfl).below hb) rfl)) rfl rfl rfl
 ·intro a' w' hF' hb hd
  have e37:=sHe hd 0 37 rfl rfl rfl rfl
  have e38:=sHe hd 1 38 rfl rfl rfl rfl
  exact dc0 (r_call Tryz.func36 en36.1 en36.2 (map2 e37 e38)) (rSub_any _ _ _ _ 3 _ ((st.f 0 rfl).below hb) ((st.f 2 rfl).below hb) ((sunr_lim (by first|assumption|exact⟨by omega,by omega,by omega,by omega,by omega,by omega,by omega,by omega⟩) (by omega) (by omega)).up _ (by omega)) ((sunr_lim (by first|assumption|exact⟨by omega,by omega,by omega,by omega,by omega,by omega,by omega,by omega⟩) (by omega) (by omega)).up _ (by omega)) (by omega)) rfl rfl
 ·intro a' w' hF' hb hd
  exact dv0 (r_load (hF'.at 1 rfl) (ld_all ty_Rat ((st.bk 1 rfl).below hb) rfl)) rfl rfl rfl
 ·intro a' w' hF' hb hd
  exact dv0 (r_load (hF'.at 2 rfl) (ld_all ty_Rat ((st.bk 2 rfl).below hb) rfl)) rfl rfl rfl
 ·intro a' w' hF' hb hd
  have e40:=sHe hd 0 40 rfl rfl rfl rfl
  have e41:=sHe hd 1 41 rfl rfl rfl rfl
  exact dc0 (r_call Tryz.func36 en36.1 en36.2 (map2 e40 e41)) (rSub_any _ _ _ _ 3 _ ((st.f 1 rfl).below hb) ((st.f 2 rfl).below hb) ((suns_lim (by first|assumption|exact⟨by omega,by omega,by omega,by omega,by omega,by omega,by omega,by omega⟩) (by omega) (by omega)).up _ (by omega)) ((sunr_lim (by first|assumption|exact⟨by omega,by omega,by omega,by omega,by omega,by omega,by omega,by omega⟩) (by omega) (by omega)).up _ (by omega)) (by omega)) rfl rfl
 ·intro a' w' hF' hb hd
  exact da0 ty_Rat rfl hb.size rfl
 ·intro a' w' hF' hb hd
  exact da0 ty_Rat rfl hb.size rfl
 intro a w18 hF bb hall hne
 have s0:=st
 replace st:=st.to bb
 obtain⟨vv19,e39,hh20⟩:=sS hall 2 39 rfl rfl
 replace st:=st.add hh20 (Rq.cl _)
 clear hh20
 obtain⟨vv21,e42,hh22⟩:=sS hall 5 42 rfl rfl
 replace st:=st.add hh22 (Rq.cl _)
 clear hh22
 obtain⟨_,e16,g16,rfl,ge16,o16⟩:=sS hall 6 16 rfl rfl
 replace st:=st.push o16.blk (Nat.le_trans s0.bel.size ge16) (s0.ne ge16)
 clear o16
 obtain⟨_,e17,g17,rfl,ge17,o17⟩:=sS hall 7 17 rfl rfl
 replace st:=st.push o17.blk (Nat.le_trans s0.bel.size ge17) (ne_cons (fun(e:g16=g17)=>hne 6 7 16 17 rfl rfl (by decide) rfl rfl (by rw[e16,e17,e])) (s0.ne ge17))
 clear o17
 clear hall hne bb s0
 obtain⟨b23,ad23,n23,c23,ae23,m23,d23,rfl⟩:=Rq.form (st.f 1 rfl)
 replace hF:=hF.add e39
 clear e39
 obtain⟨b24,ad24,n24,c24,ae24,m24,d24,rfl⟩:=Rq.form (st.f 0 rfl)
 replace hF:=hF.add e42
 clear e42
 replace hF:=hF.add e16
 clear e16
 replace hF:=hF.add e17
 clear e17
 refine S.sto st hF 1 rfl (hF.at 1 rfl) (hF.at 3 rfl) ty_Rat rfl rfl rfl rfl fun w25 a st hF=>?_
 refine S.sto st hF 0 rfl (hF.at 0 rfl) (hF.at 2 rfl) ty_Rat rfl rfl rfl rfl fun w26 a st hF=>?_
 refine E.nil ?_
 refine wp_seq ?_
 refine E.drawn 22 mixed hF [43,44,45,46,47,48,49,50,51,52,53,54,55,56,57,58,59,60,61,62,63,64] [(fun _ v=>v= .agg #[.bool b23,.slice ad23 n23 c23,.slice ae23 m23 d23]),(fun w v=>Rq w v (((98:Int):Rat)/((100:Int):Rat))),(fun _ v=>v= .int .i64 (qc ((grainV (dawV ((inD da)+1) (gA 60 120 la lb) (gB lb) (gA 180 360 lc ld) (gB ld)))-(grainV (dawV (inD da) (gA 60 120 la lb) (gB lb) (gA 180 360 lc ld) (gB ld)))) (((98:Int):Rat)/((100:Int):Rat)))),(fun _ v=>v= .bool true),(fun _ v=>v= .bool true),(fun _ v=>v= .agg #[.bool b23,.slice ad23 n23 c23,.slice ae23 m23 d23]),(fun w v=>Rq w v (((102:Int):Rat)/((100:Int):Rat))),(fun _ v=>v= .int .i64 (qc ((grainV (dawV ((inD da)+1) (gA 60 120 la lb) (gB lb) (gA 180 360 lc ld) (gB ld)))-(grainV (dawV (inD da) (gA 60 120 la lb) (gB lb) (gA 180 360 lc ld) (gB ld)))) (((102:Int):Rat)/((100:Int):Rat)))),(fun _ v=>v= .bool true),(fun _ v=>v= .bool true),(fun _ v=>v= .bool true),(fun _ v=>v= .agg #[.bool b24,.slice ad24 n24 c24,.slice ae24 m24 d24]),(fun w v=>Rq w v (((2:Int):Rat)/((10:Int):Rat))),(fun _ v=>v= .int .i64 (qc ((grainV (dusV (inD da) (gA 60 120 la lb) (gB lb) (gA 180 360 lc ld) (gB ld)))-(grainV (dawV (inD da) (gA 60 120 la lb) (gB lb) (gA 180 360 lc ld) (gB ld)))) (((2:Int):Rat)/((10:Int):Rat)))),(fun _ v=>v= .bool true),(fun _ v=>v= .bool true),(fun _ v=>v= .bool true),(fun _ v=>v= .agg #[.bool b24,.slice ad24 n24 c24,.slice ae24 m24 d24]),(fun w v=>Rq w v (((8:Int):Rat)/((10:Int):Rat))),(fun _ v=>v= .int .i64 (qc ((grainV (dusV (inD da) (gA 60 120 la lb) (gB lb) (gA 180 360 lc ld) (gB ld)))-(grainV (dawV (inD da) (gA 60 120 la lb) (gB lb) (gA 180 360 lc ld) (gB ld)))) (((8:Int):Rat)/((10:Int):Rat)))),(fun _ v=>v= .bool true),(fun _ v=>v= .bool true)] [] (by decide+kernel) (by decide+kernel) rfl rfl rfl ⟨(Mb.eq _),(fun _ _ _ h hb=>h.below hb),(Mb.eq _),(Mb.eq _),(Mb.eq _),(Mb.eq _),(fun _ _ _ h hb=>h.below hb),(Mb.eq _),(Mb.eq _),(Mb.eq _),(Mb.eq _),(Mb.eq _),(fun _ _ _ h hb=>h.below hb),(Mb.eq _),(Mb.eq _),(Mb.eq _),(Mb.eq _),(Mb.eq _),(fun _ _ _ h hb=>h.below hb),(Mb.eq _),(Mb.eq _),(Mb.eq _),trivial⟩ trivial ⟨?_,?_,?_,?_,?_,?_,?_,?_,?_,?_,?_,?_,?_,?_,?_,?_,?_,?_,?_,?_,?_,?_,trivial⟩ ?_
 ·intro a' w' hF' hb hd
  exact dv0 (r_load (hF'.at 1 rfl) (ld_all ty_Rat ((st.bk 1 rfl).below hb) rfl)) rfl rfl rfl
 ·intro a' w' hF' hb hd
  exact dc0 (r_call Tryz.func38 en38.1 en38.2 (map2 ev_c ev_c)) (rOf2_any (98) (100) _ (by decide) (by decide) (by decide) (by decide)) rfl rfl
 ·intro a' w' hF' hb hd
  have e43:=sHe hd 0 43 rfl rfl rfl rfl
  obtain⟨v44_0,e44,h44_1⟩:=sH hd 1 44 rfl rfl rfl rfl
  exact dcx0 (r_call Tryz.func37 en37.1 en37.2 (map2 e43 e44)) (rCmp_any _ _ _ _ (max (3+3+1) 2) _ ((st.f 1 rfl).below hb) h44_1 ((rlim_sub (sunr_lim (by first|assumption|exact⟨by omega,by omega,by omega,by omega,by omega,by omega,by omega,by omega⟩) (by omega) (by omega)) (sunr_lim (by first|assumption|exact⟨by omega,by omega,by omega,by omega,by omega,by omega,by omega,by omega⟩) (by omega) (by omega))).up _ (by omega)) ((RLim.up (rlim_mk2 (limz_64 (by decide) (by decide)) (limz_64 (by decide) (by decide))) 2 (by decide)).up _ (by omega)) (by omega)) (fun _=>rfl) rfl rfl
 ·intro a' w' hF' hb hd
  have e45:=sHe hd 0 45 rfl rfl rfl rfl
  exact dv0 (r_bin e45 ev_c eg_scalar (bi_int (ic_gtr (c:=true) (dec_tt (qc_pos.2 (steps_ok (by assumption)).1.1))) (by simp))) rfl rfl rfl
 ·intro a' w' hF' hb hd
  have e46:=sHe hd 0 46 rfl rfl rfl rfl
  exact dv0 (r_move e46) rfl rfl rfl
 ·intro a' w' hF' hb hd
  have e47:=sHe hd 0 47 rfl rfl rfl rfl
  exact dv1 (wanted_by rfl rfl e47 rfl) (r_load (hF'.at 1 rfl) (ld_all ty_Rat ((st.bk 1 rfl).below hb) rfl)) rfl rfl
 ·intro a' w' hF' hb hd
  have e47:=sHe hd 0 47 rfl rfl rfl rfl
  exact dc1 (wanted_by rfl rfl e47 rfl) (r_call Tryz.func38 en38.1 en38.2 (map2 ev_c ev_c)) (rOf2_any (102) (100) _ (by decide) (by decide) (by decide) (by decide)) rfl
 ·intro a' w' hF' hb hd
  have e47:=sHe hd 3 47 rfl rfl rfl rfl
  have e48:=sHe hd 0 48 rfl rfl rfl rfl
  obtain⟨v49_0,e49,h49_1⟩:=sH hd 1 49 rfl rfl rfl rfl
  exact dcx1 (wanted_by rfl rfl e47 rfl) (r_call Tryz.func37 en37.1 en37.2 (map2 e48 e49)) (rCmp_any _ _ _ _ (max (3+3+1) 2) _ ((st.f 1 rfl).below hb) h49_1 ((rlim_sub (sunr_lim (by first|assumption|exact⟨by omega,by omega,by omega,by omega,by omega,by omega,by omega,by omega⟩) (by omega) (by omega)) (sunr_lim (by first|assumption|exact⟨by omega,by omega,by omega,by omega,by omega,by omega,by omega,by omega⟩) (by omega) (by omega))).up _ (by omega)) ((RLim.up (rlim_mk2 (limz_64 (by decide) (by decide)) (limz_64 (by decide) (by decide))) 2 (by decide)).up _ (by omega)) (by omega)) (fun _=>rfl) rfl
 ·intro a' w' hF' hb hd
  have e47:=sHe hd 1 47 rfl rfl rfl rfl
  have e50:=sHe hd 0 50 rfl rfl rfl rfl
  exact dv1 (wanted_by rfl rfl e47 rfl) (r_bin e50 ev_c eg_scalar (bi_int (ic_lss (c:=true) (dec_tt (qc_lt0 (steps_ok (by assumption)).1.2))) (by simp))) rfl rfl
 ·intro a' w' hF' hb hd
  have e47:=sHe hd 0 47 rfl rfl rfl rfl
  have e51:=sHe hd 1 51 rfl rfl rfl rfl
  exact dv0 (r_pick_t e47 e51) rfl rfl rfl
 ·intro a' w' hF' hb hd
  have e52:=sHe hd 0 52 rfl rfl rfl rfl
  exact dv0 (r_move e52) rfl rfl rfl
 ·intro a' w' hF' hb hd
  have e53:=sHe hd 0 53 rfl rfl rfl rfl
  exact dv1 (wanted_by rfl rfl e53 rfl) (r_load (hF'.at 0 rfl) (ld_all ty_Rat ((st.bk 0 rfl).below hb) rfl)) rfl rfl
 ·intro a' w' hF' hb hd
  have e53:=sHe hd 0 53 rfl rfl rfl rfl
  exact dc1 (wanted_by rfl rfl e53 rfl) (r_call Tryz.func38 en38.1 en38.2 (map2 ev_c ev_c)) (rOf2_any (2) (10) _ (by decide) (by decide) (by decide) (by decide)) rfl
 ·intro a' w' hF' hb hd
  have e53:=sHe hd 3 53 rfl rfl rfl rfl
  have e54:=sHe hd 0 54 rfl rfl rfl rfl
  obtain⟨v55_0,e55,h55_1⟩:=sH hd 1 55 rfl rfl rfl rfl
  exact dcx1 (wanted_by rfl rfl e53 rfl) (r_call Tryz.func37 en37.1 en37.2 (map2 e54 e55)) (rCmp_any _ _ _ _ (max (3+3+1) 2) _ ((st.f 0 rfl).below hb) h55_1 ((rlim_sub (suns_lim (by first|assumption|exact⟨by omega,by omega,by omega,by omega,by omega,by omega,by omega,by omega⟩) (by omega) (by omega)) (sunr_lim (by first|assumption|exact⟨by omega,by omega,by omega,by omega,by omega,by omega,by omega,by omega⟩) (by omega) (by omega))).up _ (by omega)) ((RLim.up (rlim_mk2 (limz_64 (by decide) (by decide)) (limz_64 (by decide) (by decide))) 2 (by decide)).up _ (by omega)) (by omega)) (fun _=>rfl) rfl
 ·intro a' w' hF' hb hd
  have e53:=sHe hd 1 53 rfl rfl rfl rfl
  have e56:=sHe hd 0 56 rfl rfl rfl rfl
  exact dv1 (wanted_by rfl rfl e53 rfl) (r_bin e56 ev_c eg_scalar (bi_int (ic_gtr (c:=true) (dec_tt (qc_pos.2 (steps_ok (by assumption)).2.1))) (by simp))) rfl rfl
 ·intro a' w' hF' hb hd
  have e53:=sHe hd 0 53 rfl rfl rfl rfl
  have e57:=sHe hd 1 57 rfl rfl rfl rfl
  exact dv0 (r_pick_t e53 e57) rfl rfl rfl
 ·intro a' w' hF' hb hd
  have e58:=sHe hd 0 58 rfl rfl rfl rfl
  exact dv0 (r_move e58) rfl rfl rfl
 ·intro a' w' hF' hb hd
  have e59:=sHe hd 0 59 rfl rfl rfl rfl
  exact dv1 (wanted_by rfl rfl e59 rfl) (r_load (hF'.at 0 rfl) (ld_all ty_Rat ((st.bk 0 rfl).below hb) rfl)) rfl rfl
 ·intro a' w' hF' hb hd
  have e59:=sHe hd 0 59 rfl rfl rfl rfl
  exact dc1 (wanted_by rfl rfl e59 rfl) (r_call Tryz.func38 en38.1 en38.2 (map2 ev_c ev_c)) (rOf2_any (8) (10) _ (by decide) (by decide) (by decide) (by decide)) rfl
 ·intro a' w' hF' hb hd
  have e59:=sHe hd 3 59 rfl rfl rfl rfl
  have e60:=sHe hd 0 60 rfl rfl rfl rfl
  obtain⟨v61_0,e61,h61_1⟩:=sH hd 1 61 rfl rfl rfl rfl
  exact dcx1 (wanted_by rfl rfl e59 rfl) (r_call Tryz.func37 en37.1 en37.2 (map2 e60 e61)) (rCmp_any _ _ _ _ (max (3+3+1) 2) _ ((st.f 0 rfl).below hb) h61_1 ((rlim_sub (suns_lim (by first|assumption|exact⟨by omega,by omega,by omega,by omega,by omega,by omega,by omega,by omega⟩) (by omega) (by omega)) (sunr_lim (by first|assumption|exact⟨by omega,by omega,by omega,by omega,by omega,by omega,by omega,by omega⟩) (by omega) (by omega))).up _ (by omega)) ((RLim.up (rlim_mk2 (limz_64 (by decide) (by decide)) (limz_64 (by decide) (by decide))) 2 (by decide)).up _ (by omega)) (by omega)) (fun _=>rfl) rfl
 ·intro a' w' hF' hb hd
  have e59:=sHe hd 1 59 rfl rfl rfl rfl
  have e62:=sHe hd 0 62 rfl rfl rfl rfl
  exact dv1 (wanted_by rfl rfl e59 rfl) (r_bin e62 ev_c eg_scalar (bi_int (ic_lss (c:=true) (dec_tt (qc_lt0 (steps_ok (by assumption)).2.2))) (by simp))) rfl rfl
 ·intro a' w' hF' hb hd
  have e59:=sHe hd 0 59 rfl rfl rfl rfl
  have e63:=sHe hd 1 63 rfl rfl rfl rfl
  exact dv0 (r_pick_t e59 e63) rfl rfl rfl
 intro a w27 hF bb hall hne
 replace st:=st.to bb
 have e64:=sSe hall 21 64 rfl rfl
 clear hall hne bb
 replace hF:=hF.add e64
 clear e64
 refine E.opset (L':=[(10,.bool true),(64,.bool true),(17,.pointer (some ⟨g17,0,none⟩)),(16,.pointer (some ⟨g16,0,none⟩)),(42,.agg #[.bool b24,.slice ad24 n24 c24,.slice ae24 m24 d24]),(39,.agg #[.bool b23,.slice ad23 n23 c23,.slice ae23 m23 d23]),(15,.pointer (some ⟨g15,0,none⟩)),(14,.pointer (some ⟨g14,0,none⟩)),(13,.pointer (some ⟨g13,0,none⟩)),(36,.agg #[.bool b14,.slice ad14 n14 c14,.slice ae14 m14 d14]),(32,.agg #[.bool b13,.slice ad13 n13 c13,.slice ae13 m13 d13]),(29,.agg #[.bool b12,.slice ad12 n12 c12,.slice ae12 m12 d12]),(12,.pointer (some ⟨g12,0,none⟩)),(26,.agg #[.int .i64 (gA 60 120 la lb),.int .i64 (gB lb),.int .i64 (gA 180 360 lc ld),.int .i64 (gB ld)]),(25,.int .i64 ld),(24,.int .i64 lc),(23,.int .i64 lb),(22,.int .i64 la),(11,.int .i64 (inD da)),(21,.int .i64 (inD da)),(20,.int .i64 da),(19,.bool false),(18,.bool true),(0,.int .i64 da),(1,.int .i64 la),(2,.int .i64 lb),(3,.int .i64 lc),(4,.int .i64 ld)]) hF (r_assign (hF.at 0 rfl)) rfl rfl rfl rfl fun a hF=>?_
 refine E.nil ?_
 refine wp_ret ?_
 have bel:=st.bel
 refine bodyPost_ret (res_tmp Tryz.results5 (hF.at 0 rfl)) hF.dfr ?_
 exact⟨rfl,bel⟩
theorem riseEast_walk (nega1:Bool) (aa1:Option Addr) (na1 ca1:Nat) (xa1:List Nat) (negb1:Bool) (ab1:Option Addr) (nb1 cb1:Nat) (xb1:List Nat) (da la lb lc ld le:Int) (w:World) (hT:TabD w) (ia1:InX w aa1 na1 ca1 xa1) (ib1:InX w ab1 nb1 cb1 xb1):
 Calls Tryz.prog 6 #[.agg #[.bool nega1,.slice aa1 na1 ca1,.bool negb1,.slice ab1 nb1 cb1],.int .i64 da,.int .i64 la,.int .i64 lb,.int .i64 lc,.int .i64 ld,.int .i64 le] w (ValPost w (.bool true)):=by
 have oka1:=ia1.ok
 have okb1:=ib1.ok
 have st:=St.start w
 refine E.enter (nt:=77) (L:=[(0,.agg #[.bool nega1,.slice aa1 na1 ca1,.bool negb1,.slice ab1 nb1 cb1]),(1,.int .i64 da),(2,.int .i64 la),(3,.int .i64 lb),(4,.int .i64 lc),(5,.int .i64 ld),(6,.int .i64 le)]) Tryz.func6 rfl rfl rfl (args_cons (i:=0) rfl (args_cons (i:=1) rfl (args_cons (i:=2) rfl (args_cons (i:=3) rfl (args_cons (i:=4) rfl (args_cons (i:=5) rfl (args_cons (i:=6) rfl args_nil))))))) ?_
 intro a hF
 refine wp_seq ?_
 refine E.seq ?_
 refine S.box st hF (hF.at 0 rfl) rfl rfl fun g7 w1 a st hF=>?_
 refine E.opv hF (r_assign ev_c) rfl rfl rfl rfl fun a hF=>?_
 refine E.nil ?_
 refine wp_seq ?_
 refine wp_seq ?_
 refine E.seq ?_
 refine S.callx st hF (r_call Tryz.func9 en9.1 en9.2 map0) (awake14_any _ (hT.below st.bel)) rfl rfl rfl rfl fun w2 a st hF=>?_
 refine E.opv hF (r_un (hF.at 0 rfl) (bn_not _ false rfl)) rfl rfl rfl rfl fun a hF=>?_
 refine E.nil ?_
 refine wp_cond_false (hF.at 0 rfl) ?_
 refine wp_skip ?_
 refine E.norm ?_
 refine wp_seq ?_
 refine E.seq ?_
 refine E.opv hF (r_move (hF.at 5 rfl)) rfl rfl rfl rfl fun a hF=>?_
 refine S.callx st hF (r_call Tryz.func29 en29.1 en29.2 (map1 (hF.at 0 rfl))) (inD_any da _) rfl rfl rfl rfl fun w3 a st hF=>?_
 have hin:=inD_bd da
 refine E.opv hF (r_assign (hF.at 0 rfl)) rfl rfl rfl rfl fun a hF=>?_
 refine E.nil ?_
 refine wp_seq ?_
 refine E.seq ?_
 refine E.opv hF (r_move (hF.at 9 rfl)) rfl rfl rfl rfl fun a hF=>?_
 refine E.opv hF (r_move (hF.at 11 rfl)) rfl rfl rfl rfl fun a hF=>?_
 refine E.opv hF (r_move (hF.at 13 rfl)) rfl rfl rfl rfl fun a hF=>?_
 refine E.opv hF (r_move (hF.at 15 rfl)) rfl rfl rfl rfl fun a hF=>?_
 refine S.callx st hF (r_call Tryz.func12 en12.1 en12.2 (map4 (hF.at 3 rfl) (hF.at 2 rfl) (hF.at 1 rfl) (hF.at 0 rfl))) (good_any la lb lc ld _) rfl rfl rfl rfl fun w4 a st hF=>?_
 have hg1:=gB_bd lb
 have hg2:=gLat_bd la lb
 have hg3:=gB_bd ld
 have hg4:=gLon_bd lc ld
 have hok5962:=good_ok la lb lc ld
 refine S.new st hF 0 rfl ty_Plc rfl rfl rfl rfl rfl fun g16 w5 a st hF=>?_
 refine E.nil ?_
 refine wp_seq ?_
 refine E.seq ?_
 refine E.opv hF (r_load (hF.at 0 rfl) (ld_all ty_Plc (st.bk 0 rfl) rfl)) rfl rfl rfl rfl fun a hF=>?_
 refine S.new st hF 0 rfl ty_Plc rfl rfl rfl rfl rfl fun g17 w6 a st hF=>?_
 refine E.nil ?_
 refine wp_seq ?_
 refine E.seq ?_
 refine E.opv hF (r_move (hF.at 21 rfl)) rfl rfl rfl rfl fun a hF=>?_
 refine E.opv hF (r_move (hF.at 21 rfl)) rfl rfl rfl rfl fun a hF=>?_
 refine S.callx st hF (r_call Tryz.func12 en12.1 en12.2 (map4 ev_c ev_c (hF.at 1 rfl) (hF.at 0 rfl))) (good_any 0 1 le ld _) rfl rfl rfl rfl fun w7 a st hF=>?_
 have hg1:=gB_bd 1
 have hg2:=gLat_bd 0 1
 have hg3:=gB_bd ld
 have hg4:=gLon_bd le ld
 have hg0:=gLat_bd 0 1
 have hok9748:=good_ok 0 1 le ld
 refine E.opv hF (r_fieldv (hF.at 0 rfl) (fv_Plc_2 _ _ _ _ _)) rfl rfl rfl rfl fun a hF=>?_
 refine E.opv hF (r_field (hF.at 4 rfl) (fa_Plc_2 (p:=2) rfl)) rfl rfl rfl rfl fun a hF=>?_
 refine S.stooI (o:=2) (vs:=[.int .i64 (gA 180 360 le ld)]) (ws:=[.int .i64 (gA 60 120 la lb),.int .i64 (gB lb),.int .i64 (gA 180 360 le ld),.int .i64 (gB ld)]) st hF 0 rfl (hF.at 0 rfl) (hF.at 1 rfl) rfl sz_i64 rfl rfl rfl rfl fun w8 a st hF=>?_
 refine E.nil ?_
 refine wp_seq ?_
 refine E.drawn 8 mixed hF [35,36,37,38,39,40,41,18] [(fun _ v=>v= .agg #[.int .i64 (gA 60 120 la lb),.int .i64 (gB lb),.int .i64 (gA 180 360 le ld),.int .i64 (gB ld)]),(fun w v=>Rq w v (((gA 180 360 le ld:Int):Rat)/((gB ld:Int):Rat))),(fun _ v=>v= .agg #[.int .i64 (gA 60 120 la lb),.int .i64 (gB lb),.int .i64 (gA 180 360 lc ld),.int .i64 (gB ld)]),(fun w v=>Rq w v (((gA 180 360 lc ld:Int):Rat)/((gB ld:Int):Rat))),(fun w v=>Rq w v ((((gA 180 360 le ld:Int):Rat)/((gB ld:Int):Rat))-(((gA 180 360 lc ld:Int):Rat)/((gB ld:Int):Rat)))),(fun w v=>Rq w v (((360:Int):Rat))),(fun w v=>Rq w v (((((gA 180 360 le ld:Int):Rat)/((gB ld:Int):Rat))-(((gA 180 360 lc ld:Int):Rat)/((gB ld:Int):Rat)))/(((360:Int):Rat)))),(fun w v=>∃g,v= .pointer (some ⟨g,0,none⟩)∧w8.heap.size≤g∧Own w g [.bool false,.slice none 0 0,.slice none 0 0])] [7] (by decide+kernel) (by decide+kernel) rfl rfl rfl ⟨(Mb.eq _),(fun _ _ _ h hb=>h.below hb),(Mb.eq _),(fun _ _ _ h hb=>h.below hb),(fun _ _ _ h hb=>h.below hb),(fun _ _ _ h hb=>h.below hb),(fun _ _ _ h hb=>h.below hb),(fun _ _ _ ⟨g,e,l,o⟩ hb=>⟨g,e,l,o.below hb⟩),trivial⟩ ⟨fun _ _ ⟨g,e,_,o⟩=>⟨g,e,o.lt⟩,trivial⟩ ⟨?_,?_,?_,?_,?_,?_,?_,?_,trivial⟩ ?_
 ·intro a' w' hF' hb hd
  exact dv0 (r_load (hF'.at 5 rfl) (ld_all ty_Plc ((st.bk 0 rfl).below hb) rfl)) rfl rfl rfl
 ·intro a' w' hF' hb hd
  have e35:=sHe hd 0 35 rfl rfl rfl rfl
  exact dc0 (r_call Tryz.func39 en39.1 en39.2 (map1 e35)) (pLongitude_any (gA 60 120 la lb) (gB lb) (gA 180 360 le ld) (gB ld) _ (by omega) (by omega) (by omega) (by omega)) rfl rfl
 ·intro a' w' hF' hb hd
  exact dv0 (r_load (hF'.at 7 rfl) (ld_all ty_Plc ((st.bk 1 rfl).below hb) rfl)) rfl rfl rfl
 ·intro a' w' hF' hb hd
  have e37:=sHe hd 0 37 rfl rfl rfl rfl
  exact dc0 (r_call Tryz.func39 en39.1 en39.2 (map1 e37)) (pLongitude_any (gA 60 120 la lb) (gB lb) (gA 180 360 lc ld) (gB ld) _ (by omega) (by omega) (by omega) (by omega)) rfl rfl
 ·intro a' w' hF' hb hd
  obtain⟨v36_0,e36,h36_1⟩:=sH hd 0 36 rfl rfl rfl rfl
  obtain⟨v38_0,e38,h38_1⟩:=sH hd 1 38 rfl rfl rfl rfl
  exact dc0 (r_call Tryz.func36 en36.1 en36.2 (map2 e36 e38)) (rSub_any _ _ _ _ 2 _ h36_1 h38_1 ((lim64q (n:=gA 180 360 le ld) (d:=gB ld) (by omega) (by omega) (by omega) (by omega)).up _ (by omega)) ((lim64q (n:=gA 180 360 lc ld) (d:=gB ld) (by omega) (by omega) (by omega) (by omega)).up _ (by omega)) (by omega)) rfl rfl
 ·intro a' w' hF' hb hd
  exact dc0 (r_call Tryz.func41 en41.1 en41.2 (map1 ev_c)) (rWhole_any (360) _ (by decide) (by decide)) rfl rfl
 ·intro a' w' hF' hb hd
  obtain⟨v39_0,e39,h39_1⟩:=sH hd 0 39 rfl rfl rfl rfl
  obtain⟨v40_0,e40,h40_1⟩:=sH hd 1 40 rfl rfl rfl rfl
  exact dc0 (r_call Tryz.func40 en40.1 en40.2 (map2 e39 e40)) (rDiv_any _ _ _ _ (max (2+2+1) 2) _ h39_1 h40_1 ((rlim_sub (lim64q (n:=gA 180 360 le ld) (d:=gB ld) (by omega) (by omega) (by omega) (by omega)) (lim64q (n:=gA 180 360 lc ld) (d:=gB ld) (by omega) (by omega) (by omega) (by omega))).up _ (by omega)) ((rlim_int (limz_64 (by decide) (by decide)) (by omega)).up _ (by omega)) (by omega)) rfl rfl
 ·intro a' w' hF' hb hd
  exact da0 ty_Rat rfl hb.size rfl
 intro a w9 hF bb hall hne
 have s0:=st
 replace st:=st.to bb
 obtain⟨vv10,e41,hh11⟩:=sS hall 6 41 rfl rfl
 replace st:=st.add hh11 (Rq.cl _)
 clear hh11
 obtain⟨_,e18,g18,rfl,ge18,o18⟩:=sS hall 7 18 rfl rfl
 replace st:=st.push o18.blk (Nat.le_trans s0.bel.size ge18) (s0.ne ge18)
 clear o18
 clear hall hne bb s0
 obtain⟨b12,ad12,n12,c12,ae12,m12,d12,rfl⟩:=Rq.form (st.f 0 rfl)
 replace hF:=hF.add e41
 clear e41
 replace hF:=hF.add e18
 clear e18
 refine S.sto st hF 0 rfl (hF.at 0 rfl) (hF.at 1 rfl) ty_Rat rfl rfl rfl rfl fun w13 a st hF=>?_
 refine E.nil ?_
 refine wp_seq ?_
 refine E.seq ?_
 refine E.opv hF (r_field (hF.at 9 rfl) (fa_Plc_1 (p:=1) rfl)) rfl rfl rfl rfl fun a hF=>?_
 refine E.opv hF (r_load (hF.at 0 rfl) (ldb_i64 (v:= .int .i64 (gB lb)) (st.bk 2 rfl) rfl)) rfl rfl rfl rfl fun a hF=>?_
 refine E.opv hF (r_field (hF.at 11 rfl) (fa_Plc_2 (p:=2) rfl)) rfl rfl rfl rfl fun a hF=>?_
 refine E.opv hF (r_load (hF.at 0 rfl) (ldb_i64 (v:= .int .i64 (gA 180 360 lc ld)) (st.bk 2 rfl) rfl)) rfl rfl rfl rfl fun a hF=>?_
 refine E.opv hF (r_field (hF.at 13 rfl) (fa_Plc_3 (p:=3) rfl)) rfl rfl rfl rfl fun a hF=>?_
 refine E.opv hF (r_load (hF.at 0 rfl) (ldb_i64 (v:= .int .i64 (gB ld)) (st.bk 2 rfl) rfl)) rfl rfl rfl rfl fun a hF=>?_
 refine E.opv hF (r_build (pair3 (hF.at 4 rfl) (hF.at 2 rfl) (hF.at 0 rfl)) (bd_Plc_123 _ _ _ _)) rfl rfl rfl rfl fun a hF=>?_
 refine S.new st hF 0 rfl ty_Plc rfl rfl rfl rfl rfl fun g19 w14 a st hF=>?_
 refine E.nil ?_
 refine wp_seq ?_
 refine E.drawn 28 mixed hF [49,50,51,52,53,54,55,56,57,58,59,60,61,62,63,64,65,66,67,68,69,70,71,72,73,74,75,76] [(fun _ v=>v= .agg #[.bool nega1,.slice aa1 na1 ca1,.bool negb1,.slice ab1 nb1 cb1]),(fun w v=>Rq w v (((rawZ nega1 xa1 2:Int):Rat)/((rawZ negb1 xb1 2:Int):Rat))),(fun _ v=>v= .agg #[.int .i64 0,.int .i64 (gB lb),.int .i64 (gA 180 360 lc ld),.int .i64 (gB ld)]),(fun w v=>Rq w v (diffV (((rawZ nega1 xa1 2:Int):Rat)/((rawZ negb1 xb1 2:Int):Rat)) (((0:Int):Rat)/((gB lb:Int):Rat)))),(fun _ v=>v= .int .i64 (sz (Rat.num (diffV (((rawZ nega1 xa1 2:Int):Rat)/((rawZ negb1 xb1 2:Int):Rat)) (((0:Int):Rat)/((gB lb:Int):Rat)))))),(fun _ v=>v= .bool true),(fun _ v=>v= .bool true),(fun _ v=>v= .int .i64 (inD da)),(fun _ v=>v= .agg #[.int .i64 (gA 60 120 la lb),.int .i64 (gB lb),.int .i64 (gA 180 360 lc ld),.int .i64 (gB ld)]),(fun w v=>Rq w v (dawV (inD da) (gA 60 120 la lb) (gB lb) (gA 180 360 lc ld) (gB ld))),(fun _ v=>v= .int .i64 (inD da)),(fun _ v=>v= .agg #[.int .i64 (gA 60 120 la lb),.int .i64 (gB lb),.int .i64 (gA 180 360 le ld),.int .i64 (gB ld)]),(fun w v=>Rq w v (dawV (inD da) (gA 60 120 la lb) (gB lb) (gA 180 360 le ld) (gB ld))),(fun w v=>Rq w v ((dawV (inD da) (gA 60 120 la lb) (gB lb) (gA 180 360 lc ld) (gB ld))-(dawV (inD da) (gA 60 120 la lb) (gB lb) (gA 180 360 le ld) (gB ld)))),(fun _ v=>v= .agg #[.bool b12,.slice ad12 n12 c12,.slice ae12 m12 d12]),(fun _ v=>v= .bool true),(fun _ v=>v= .bool true),(fun _ v=>v= .bool true),(fun _ v=>v= .int .i64 (inD da)),(fun _ v=>v= .agg #[.int .i64 (gA 60 120 la lb),.int .i64 (gB lb),.int .i64 (gA 180 360 lc ld),.int .i64 (gB ld)]),(fun w v=>Rq w v (dusV (inD da) (gA 60 120 la lb) (gB lb) (gA 180 360 lc ld) (gB ld))),(fun _ v=>v= .int .i64 (inD da)),(fun _ v=>v= .agg #[.int .i64 (gA 60 120 la lb),.int .i64 (gB lb),.int .i64 (gA 180 360 le ld),.int .i64 (gB ld)]),(fun w v=>Rq w v (dusV (inD da) (gA 60 120 la lb) (gB lb) (gA 180 360 le ld) (gB ld))),(fun w v=>Rq w v ((dusV (inD da) (gA 60 120 la lb) (gB lb) (gA 180 360 lc ld) (gB ld))-(dusV (inD da) (gA 60 120 la lb) (gB lb) (gA 180 360 le ld) (gB ld)))),(fun _ v=>v= .agg #[.bool b12,.slice ad12 n12 c12,.slice ae12 m12 d12]),(fun _ v=>v= .bool true),(fun _ v=>v= .bool true)] [] (by decide+kernel) (by decide+kernel) rfl rfl rfl ⟨(Mb.eq _),(fun _ _ _ h hb=>h.below hb),(Mb.eq _),(fun _ _ _ h hb=>h.below hb),(Mb.eq _),(Mb.eq _),(Mb.eq _),(Mb.eq _),(Mb.eq _),(fun _ _ _ h hb=>h.below hb),(Mb.eq _),(Mb.eq _),(fun _ _ _ h hb=>h.below hb),(fun _ _ _ h hb=>h.below hb),(Mb.eq _),(Mb.eq _),(Mb.eq _),(Mb.eq _),(Mb.eq _),(Mb.eq _),(fun _ _ _ h hb=>h.below hb),(Mb.eq _),(Mb.eq _),(fun _ _ _ h hb=>h.below hb),(fun _ _ _ h hb=>h.below hb),(Mb.eq _),(Mb.eq _),(Mb.eq _),trivial⟩ trivial ⟨?_,?_,?_,?_,?_,?_,?_,?_,?_,?_,?_,?_,?_,?_,?_,?_,?_,?_,?_,?_,?_,?_,?_,?_,?_,?_,?_,?_,trivial⟩ ?_
 ·intro a' w' hF' hb hd
  exact dv0 (r_load (hF'.at 29 rfl) (ld_all ty_Raw5 ((st.bk 4 rfl).below hb) rfl)) rfl rfl rfl
 ·intro a' w' hF' hb hd
  have e49:=sHe hd 0 49 rfl rfl rfl rfl
  exact dc0 (r_call Tryz.func10 en10.1 en10.2 (map2 e49 ev_c)) (Own5_any nega1 aa1 na1 ca1 xa1 negb1 ab1 nb1 cb1 xb1 2 _ (ia1.below (below_to st.bel hb)) (ib1.below (below_to st.bel hb)) (by omega)) rfl rfl
 ·intro a' w' hF' hb hd
  exact dv0 (r_load (hF'.at 0 rfl) (ld_all ty_Plc ((st.bk 0 rfl).below hb) rfl)) rfl rfl rfl
 ·intro a' w' hF' hb hd
  obtain⟨v50_0,e50,h50_1⟩:=sH hd 0 50 rfl rfl rfl rfl
  have e51:=sHe hd 1 51 rfl rfl rfl rfl
  exact dc0 (r_call Tryz.func24 en24.1 en24.2 (map2 e50 e51)) (reDifference_any _ _ 0 (gB lb) (gA 180 360 lc ld) (gB ld) 2 _ (hT.below (below_to st.bel hb)) h50_1 (own5_lim nega1 negb1 oka1 okb1 2 (by decide)) (by omega) (by decide) (by decide) (by omega) (by omega)) rfl rfl
 ·intro a' w' hF' hb hd
  obtain⟨v52_0,e52,h52_1⟩:=sH hd 0 52 rfl rfl rfl rfl
  exact dcx0 (r_call Tryz.func42 en42.1 en42.2 (map1 e52)) (rsgn_any _ _ _ h52_1) (fun _=>rfl) rfl rfl
 ·intro a' w' hF' hb hd
  have e53:=sHe hd 0 53 rfl rfl rfl rfl
  exact dv0 (r_bin e53 ev_c eg_scalar (bi_int (ic_eql (c:=true) (dec_tt (sz0_of (diff_flatb _ _)))) (by simp))) rfl rfl rfl
 ·intro a' w' hF' hb hd
  have e54:=sHe hd 0 54 rfl rfl rfl rfl
  exact dv0 (r_move e54) rfl rfl rfl
 ·intro a' w' hF' hb hd
  have e55:=sHe hd 0 55 rfl rfl rfl rfl
  exact dv1 (wanted_by rfl rfl e55 rfl) (r_move (hF'.at 23 rfl)) rfl rfl
 ·intro a' w' hF' hb hd
  have e55:=sHe hd 0 55 rfl rfl rfl rfl
  exact dv1 (wanted_by rfl rfl e55 rfl) (r_load (hF'.at 17 rfl) (ld_all ty_Plc ((st.bk 3 rfl).below hb) rfl)) rfl rfl
 ·intro a' w' hF' hb hd
  have e55:=sHe hd 2 55 rfl rfl rfl rfl
  have e56:=sHe hd 0 56 rfl rfl rfl rfl
  have e57:=sHe hd 1 57 rfl rfl rfl rfl
  exact dc1 (wanted_by rfl rfl e55 rfl) (r_call Tryz.func32 en32.1 en32.2 (map2 e56 e57)) (reDawn_any (inD da) (gA 60 120 la lb) (gB lb) (gA 180 360 lc ld) (gB ld) _ (hT.below (below_to st.bel hb)) (by first|assumption|exact⟨by omega,by omega,by omega,by omega,by omega,by omega,by omega,by omega⟩) (by omega) (by omega)) rfl
 ·intro a' w' hF' hb hd
  have e55:=sHe hd 0 55 rfl rfl rfl rfl
  exact dv1 (wanted_by rfl rfl e55 rfl) (r_move (hF'.at 23 rfl)) rfl rfl
 ·intro a' w' hF' hb hd
  have e55:=sHe hd 0 55 rfl rfl rfl rfl
  exact dv1 (wanted_by rfl rfl e55 rfl) (r_load (hF'.at 15 rfl) (ld_all ty_Plc ((st.bk 2 rfl).below hb) rfl)) rfl rfl
 ·intro a' w' hF' hb hd
  have e55:=sHe hd 3 55 rfl rfl rfl rfl
  have e59:=sHe hd 0 59 rfl rfl rfl rfl
  have e60:=sHe hd 1 60 rfl rfl rfl rfl
  exact dc1 (wanted_by rfl rfl e55 rfl) (r_call Tryz.func32 en32.1 en32.2 (map2 e59 e60)) (reDawn_any (inD da) (gA 60 120 la lb) (gB lb) (gA 180 360 le ld) (gB ld) _ (hT.below (below_to st.bel hb)) (by first|assumption|exact⟨by omega,by omega,by omega,by omega,by omega,by omega,by omega,by omega⟩) (by omega) (by omega)) rfl
 ·intro a' w' hF' hb hd
  have e55:=sHe hd 3 55 rfl rfl rfl rfl
  obtain⟨v58_0,e58,h58_1⟩:=sH hd 0 58 rfl rfl rfl rfl
  obtain⟨v61_0,e61,h61_1⟩:=sH hd 1 61 rfl rfl rfl rfl
  exact dc1 (wanted_by rfl rfl e55 rfl) (r_call Tryz.func36 en36.1 en36.2 (map2 e58 e61)) (rSub_any _ _ _ _ 90 _ h58_1 h61_1 ((daw_lim (by first|assumption|exact⟨by omega,by omega,by omega,by omega,by omega,by omega,by omega,by omega⟩) (by omega) (by omega)).up _ (by omega)) ((daw_lim (by first|assumption|exact⟨by omega,by omega,by omega,by omega,by omega,by omega,by omega,by omega⟩) (by omega) (by omega)).up _ (by omega)) (by omega)) rfl
 ·intro a' w' hF' hb hd
  have e55:=sHe hd 0 55 rfl rfl rfl rfl
  exact dv1 (wanted_by rfl rfl e55 rfl) (r_load (hF'.at 8 rfl) (ld_all ty_Rat ((st.bk 1 rfl).below hb) rfl)) rfl rfl
 ·intro a' w' hF' hb hd
  have e55:=sHe hd 3 55 rfl rfl rfl rfl
  obtain⟨v62_0,e62,h62_1⟩:=sH hd 0 62 rfl rfl rfl rfl
  have e63:=sHe hd 1 63 rfl rfl rfl rfl
  exact dcx1 (wanted_by rfl rfl e55 rfl) (r_call Tryz.func43 en43.1 en43.2 (map2 e62 e63)) (rSame_true _ _ _ _ _ h62_1 ((st.f 0 rfl).below hb) (dawE _ _ _ _ _ _ _)) (fun _=>rfl) rfl
 ·intro a' w' hF' hb hd
  have e55:=sHe hd 0 55 rfl rfl rfl rfl
  have e64:=sHe hd 1 64 rfl rfl rfl rfl
  exact dv0 (r_pick_t e55 e64) rfl rfl rfl
 ·intro a' w' hF' hb hd
  have e65:=sHe hd 0 65 rfl rfl rfl rfl
  exact dv0 (r_move e65) rfl rfl rfl
 ·intro a' w' hF' hb hd
  have e66:=sHe hd 0 66 rfl rfl rfl rfl
  exact dv1 (wanted_by rfl rfl e66 rfl) (r_move (hF'.at 23 rfl)) rfl rfl
 ·intro a' w' hF' hb hd
  have e66:=sHe hd 0 66 rfl rfl rfl rfl
  exact dv1 (wanted_by rfl rfl e66 rfl) (r_load (hF'.at 17 rfl) (ld_all ty_Plc ((st.bk 3 rfl).below hb) rfl)) rfl rfl
 ·intro a' w' hF' hb hd
  have e66:=sHe hd 2 66 rfl rfl rfl rfl
  have e67:=sHe hd 0 67 rfl rfl rfl rfl
  have e68:=sHe hd 1 68 rfl rfl rfl rfl
  exact dc1 (wanted_by rfl rfl e66 rfl) (r_call Tryz.func33 en33.1 en33.2 (map2 e67 e68)) (reDusk_any (inD da) (gA 60 120 la lb) (gB lb) (gA 180 360 lc ld) (gB ld) _ (hT.below (below_to st.bel hb)) (by first|assumption|exact⟨by omega,by omega,by omega,by omega,by omega,by omega,by omega,by omega⟩) (by omega) (by omega)) rfl
 ·intro a' w' hF' hb hd
  have e66:=sHe hd 0 66 rfl rfl rfl rfl
  exact dv1 (wanted_by rfl rfl e66 rfl) (r_move (hF'.at 23 rfl)) rfl rfl
 ·intro a' w' hF' hb hd
  have e66:=sHe hd 0 66 rfl rfl rfl rfl
  exact dv1 (wanted_by rfl rfl e66 rfl) (r_load (hF'.at 15 rfl) (ld_all ty_Plc ((st.bk 2 rfl).below hb) rfl)) rfl rfl
 ·intro a' w' hF' hb hd
  have e66:=sHe hd 3 66 rfl rfl rfl rfl
  have e70:=sHe hd 0 70 rfl rfl rfl rfl
  have e71:=sHe hd 1 71 rfl rfl rfl rfl
  exact dc1 (wanted_by rfl rfl e66 rfl) (r_call Tryz.func33 en33.1 en33.2 (map2 e70 e71)) (reDusk_any (inD da) (gA 60 120 la lb) (gB lb) (gA 180 360 le ld) (gB ld) _ (hT.below (below_to st.bel hb)) (by first|assumption|exact⟨by omega,by omega,by omega,by omega,by omega,by omega,by omega,by omega⟩) (by omega) (by omega)) rfl
 ·intro a' w' hF' hb hd
  have e66:=sHe hd 3 66 rfl rfl rfl rfl
  obtain⟨v69_0,e69,h69_1⟩:=sH hd 0 69 rfl rfl rfl rfl
  obtain⟨v72_0,e72,h72_1⟩:=sH hd 1 72 rfl rfl rfl rfl
  exact dc1 (wanted_by rfl rfl e66 rfl) (r_call Tryz.func36 en36.1 en36.2 (map2 e69 e72)) (rSub_any _ _ _ _ 90 _ h69_1 h72_1 ((dus_lim (by first|assumption|exact⟨by omega,by omega,by omega,by omega,by omega,by omega,by omega,by omega⟩) (by omega) (by omega)).up _ (by omega)) ((dus_lim (by first|assumption|exact⟨by omega,by omega,by omega,by omega,by omega,by omega,by omega,by omega⟩) (by omega) (by omega)).up _ (by omega)) (by omega)) rfl
 ·intro a' w' hF' hb hd
  have e66:=sHe hd 0 66 rfl rfl rfl rfl
  exact dv1 (wanted_by rfl rfl e66 rfl) (r_load (hF'.at 8 rfl) (ld_all ty_Rat ((st.bk 1 rfl).below hb) rfl)) rfl rfl
 ·intro a' w' hF' hb hd
  have e66:=sHe hd 3 66 rfl rfl rfl rfl
  obtain⟨v73_0,e73,h73_1⟩:=sH hd 0 73 rfl rfl rfl rfl
  have e74:=sHe hd 1 74 rfl rfl rfl rfl
  exact dcx1 (wanted_by rfl rfl e66 rfl) (r_call Tryz.func43 en43.1 en43.2 (map2 e73 e74)) (rSame_true _ _ _ _ _ h73_1 ((st.f 0 rfl).below hb) (dusE _ _ _ _ _ _ _)) (fun _=>rfl) rfl
 ·intro a' w' hF' hb hd
  have e66:=sHe hd 0 66 rfl rfl rfl rfl
  have e75:=sHe hd 1 75 rfl rfl rfl rfl
  exact dv0 (r_pick_t e66 e75) rfl rfl rfl
 intro a w15 hF bb hall hne
 replace st:=st.to bb
 have e76:=sSe hall 27 76 rfl rfl
 clear hall hne bb
 replace hF:=hF.add e76
 clear e76
 refine E.opset (L':=[(14,.bool true),(76,.bool true),(19,.pointer (some ⟨g19,0,none⟩)),(48,.agg #[.int .i64 0,.int .i64 (gB lb),.int .i64 (gA 180 360 lc ld),.int .i64 (gB ld)]),(47,.int .i64 (gB ld)),(46,.pointer (some ⟨g16,3,none⟩)),(45,.int .i64 (gA 180 360 lc ld)),(44,.pointer (some ⟨g16,2,none⟩)),(43,.int .i64 (gB lb)),(42,.pointer (some ⟨g16,1,none⟩)),(18,.pointer (some ⟨g18,0,none⟩)),(41,.agg #[.bool b12,.slice ad12 n12 c12,.slice ae12 m12 d12]),(34,.pointer (some ⟨g17,2,none⟩)),(33,.int .i64 (gA 180 360 le ld)),(32,.agg #[.int .i64 (gA 60 120 0 1),.int .i64 (gB 1),.int .i64 (gA 180 360 le ld),.int .i64 (gB ld)]),(31,.int .i64 ld),(30,.int .i64 le),(17,.pointer (some ⟨g17,0,none⟩)),(29,.agg #[.int .i64 (gA 60 120 la lb),.int .i64 (gB lb),.int .i64 (gA 180 360 lc ld),.int .i64 (gB ld)]),(16,.pointer (some ⟨g16,0,none⟩)),(28,.agg #[.int .i64 (gA 60 120 la lb),.int .i64 (gB lb),.int .i64 (gA 180 360 lc ld),.int .i64 (gB ld)]),(27,.int .i64 ld),(26,.int .i64 lc),(25,.int .i64 lb),(24,.int .i64 la),(15,.int .i64 (inD da)),(23,.int .i64 (inD da)),(22,.int .i64 da),(21,.bool false),(20,.bool true),(7,.pointer (some ⟨g7,0,none⟩)),(0,.agg #[.bool nega1,.slice aa1 na1 ca1,.bool negb1,.slice ab1 nb1 cb1]),(1,.int .i64 da),(2,.int .i64 la),(3,.int .i64 lb),(4,.int .i64 lc),(5,.int .i64 ld),(6,.int .i64 le)]) hF (r_assign (hF.at 0 rfl)) rfl rfl rfl rfl fun a hF=>?_
 refine E.nil ?_
 refine wp_ret ?_
 have bel:=st.bel
 refine bodyPost_ret (res_tmp Tryz.results6 (hF.at 0 rfl)) hF.dfr ?_
 exact⟨rfl,bel⟩
theorem riseBits_walk (da la lb lc ld:Int) (w:World) (hT:TabD w):
 Calls Tryz.prog 7 #[.int .i64 da,.int .i64 la,.int .i64 lb,.int .i64 lc,.int .i64 ld] w (ValPost w (.bool true)):=by
 have st:=St.start w
 refine E.enter (nt:=56) (L:=[(0,.int .i64 da),(1,.int .i64 la),(2,.int .i64 lb),(3,.int .i64 lc),(4,.int .i64 ld)]) Tryz.func7 rfl rfl rfl (args_cons (i:=0) rfl (args_cons (i:=1) rfl (args_cons (i:=2) rfl (args_cons (i:=3) rfl (args_cons (i:=4) rfl args_nil))))) ?_
 intro a hF
 refine wp_seq ?_
 refine E.seq ?_
 refine E.opv hF (r_assign ev_c) rfl rfl rfl rfl fun a hF=>?_
 refine E.nil ?_
 refine wp_seq ?_
 refine wp_seq ?_
 refine E.seq ?_
 refine S.callx st hF (r_call Tryz.func9 en9.1 en9.2 map0) (awake14_any _ (hT.below st.bel)) rfl rfl rfl rfl fun w1 a st hF=>?_
 refine E.opv hF (r_un (hF.at 0 rfl) (bn_not _ false rfl)) rfl rfl rfl rfl fun a hF=>?_
 refine E.nil ?_
 refine wp_cond_false (hF.at 0 rfl) ?_
 refine wp_skip ?_
 refine E.norm ?_
 refine wp_seq ?_
 refine E.seq ?_
 refine E.opv hF (r_move (hF.at 3 rfl)) rfl rfl rfl rfl fun a hF=>?_
 refine S.callx st hF (r_call Tryz.func29 en29.1 en29.2 (map1 (hF.at 0 rfl))) (inD_any da _) rfl rfl rfl rfl fun w2 a st hF=>?_
 have hin:=inD_bd da
 refine E.opv hF (r_assign (hF.at 0 rfl)) rfl rfl rfl rfl fun a hF=>?_
 refine E.nil ?_
 refine wp_seq ?_
 refine E.seq ?_
 refine E.opv hF (r_move (hF.at 7 rfl)) rfl rfl rfl rfl fun a hF=>?_
 refine E.opv hF (r_move (hF.at 9 rfl)) rfl rfl rfl rfl fun a hF=>?_
 refine E.opv hF (r_move (hF.at 11 rfl)) rfl rfl rfl rfl fun a hF=>?_
 refine E.opv hF (r_move (hF.at 13 rfl)) rfl rfl rfl rfl fun a hF=>?_
 refine S.callx st hF (r_call Tryz.func12 en12.1 en12.2 (map4 (hF.at 3 rfl) (hF.at 2 rfl) (hF.at 1 rfl) (hF.at 0 rfl))) (good_any la lb lc ld _) rfl rfl rfl rfl fun w3 a st hF=>?_
 have hg1:=gB_bd lb
 have hg2:=gLat_bd la lb
 have hg3:=gB_bd ld
 have hg4:=gLon_bd lc ld
 have hok5962:=good_ok la lb lc ld
 refine S.new st hF 0 rfl ty_Plc rfl rfl rfl rfl rfl fun g12 w4 a st hF=>?_
 refine E.nil ?_
 refine wp_seq ?_
 refine E.seq ?_
 refine E.opv hF (r_move (hF.at 6 rfl)) rfl rfl rfl rfl fun a hF=>?_
 refine E.opv hF (r_load (hF.at 1 rfl) (ld_all ty_Plc (st.bk 0 rfl) rfl)) rfl rfl rfl rfl fun a hF=>?_
 refine S.call st hF (r_call Tryz.func34 en34.1 en34.2 (map2 (hF.at 1 rfl) (hF.at 0 rfl))) (reSunrise_any (inD da) (gA 60 120 la lb) (gB lb) (gA 180 360 lc ld) (gB ld) _ (hT.below st.bel) (by first|assumption|exact⟨by omega,by omega,by omega,by omega,by omega,by omega,by omega,by omega⟩) (by omega) (by omega)) (fun _ _ h=>h) Rq.cl rfl rfl rfl rfl fun vv6 w5 a st hF=>?_
 obtain⟨b8,ad8,n8,c8,ae8,m8,d8,rfl⟩:=Rq.form (st.f 0 rfl)
 refine S.new st hF 0 rfl ty_Rat rfl rfl rfl rfl rfl fun g13 w9 a st hF=>?_
 refine E.nil ?_
 refine wp_seq ?_
 refine E.seq ?_
 refine E.opv hF (r_move (hF.at 10 rfl)) rfl rfl rfl rfl fun a hF=>?_
 refine E.opv hF (r_load (hF.at 5 rfl) (ld_all ty_Plc (st.bk 1 rfl) rfl)) rfl rfl rfl rfl fun a hF=>?_
 refine S.call st hF (r_call Tryz.func32 en32.1 en32.2 (map2 (hF.at 1 rfl) (hF.at 0 rfl))) (reDawn_any (inD da) (gA 60 120 la lb) (gB lb) (gA 180 360 lc ld) (gB ld) _ (hT.below st.bel) (by first|assumption|exact⟨by omega,by omega,by omega,by omega,by omega,by omega,by omega,by omega⟩) (by omega) (by omega)) (fun _ _ h=>h) Rq.cl rfl rfl rfl rfl fun vv11 w10 a st hF=>?_
 obtain⟨b13,ad13,n13,c13,ae13,m13,d13,rfl⟩:=Rq.form (st.f 0 rfl)
 refine S.callx st hF (r_call Tryz.func44 en44.1 en44.2 (map1 (hF.at 0 rfl))) (oBits_any _ _ _ (st.f 0 rfl)) rfl rfl rfl rfl fun w14 a st hF=>?_
 refine E.opv hF (r_bin (hF.at 0 rfl) ev_c eg_scalar (bi_int (ic_lss (c:=true) (dec_tt (rlim_bits (n:=4096) (daw_lim (by assumption) (by omega) (by omega)) (by decide)))) (by simp))) rfl rfl rfl rfl fun a hF=>?_
 refine E.opv hF (r_move (hF.at 0 rfl)) rfl rfl rfl rfl fun a hF=>?_
 refine E.opvg hF (r_move (hF.at 16 rfl)) (wanted_by rfl rfl (hF.at 0 rfl) rfl) rfl rfl rfl fun a hF=>?_
 refine E.opvg hF (r_load (hF.at 11 rfl) (ld_all ty_Plc (st.bk 1 rfl) rfl)) (wanted_by rfl rfl (hF.at 1 rfl) rfl) rfl rfl rfl fun a hF=>?_
 refine S.callg st hF (wanted_by rfl rfl (hF.at 2 rfl) rfl) (r_call Tryz.func33 en33.1 en33.2 (map2 (hF.at 1 rfl) (hF.at 0 rfl))) (reDusk_any (inD da) (gA 60 120 la lb) (gB lb) (gA 180 360 lc ld) (gB ld) _ (hT.below st.bel) (by first|assumption|exact⟨by omega,by omega,by omega,by omega,by omega,by omega,by omega,by omega⟩) (by omega) (by omega)) (fun _ _ h=>h) Rq.cl rfl rfl rfl fun vv16 w15 a st hF=>?_
 obtain⟨b18,ad18,n18,c18,ae18,m18,d18,rfl⟩:=Rq.form (st.f 0 rfl)
 refine S.callxg st hF (wanted_by rfl rfl (hF.at 3 rfl) rfl) (r_call Tryz.func44 en44.1 en44.2 (map1 (hF.at 0 rfl))) (oBits_any _ _ _ (st.f 0 rfl)) rfl rfl rfl fun w19 a st hF=>?_
 refine E.opvg hF (r_bin (hF.at 0 rfl) ev_c eg_scalar (bi_int (ic_lss (c:=true) (dec_tt (rlim_bits (n:=4096) (dus_lim (by assumption) (by omega) (by omega)) (by decide)))) (by simp))) (wanted_by rfl rfl (hF.at 4 rfl) rfl) rfl rfl rfl fun a hF=>?_
 refine E.opv hF (r_pick_t (hF.at 5 rfl) (hF.at 0 rfl)) rfl rfl rfl rfl fun a hF=>?_
 refine E.opv hF (r_move (hF.at 0 rfl)) rfl rfl rfl rfl fun a hF=>?_
 refine E.opvg hF (r_load (hF.at 13 rfl) (ld_all ty_Rat (st.bk 0 rfl) rfl)) (wanted_by rfl rfl (hF.at 0 rfl) rfl) rfl rfl rfl fun a hF=>?_
 refine S.callg st hF (wanted_by rfl rfl (hF.at 1 rfl) rfl) (r_call Tryz.func45 en45.1 en45.2 (map1 (hF.at 0 rfl))) (oSun_any _ _ 3 _ (hT.below st.bel) (st.f 2 rfl) (sunr_lim (by first|assumption|exact⟨by omega,by omega,by omega,by omega,by omega,by omega,by omega,by omega⟩) (by omega) (by omega)) (by omega)) (fun _ _ h=>h) Rq.cl rfl rfl rfl fun vv21 w20 a st hF=>?_
 obtain⟨b23,ad23,n23,c23,ae23,m23,d23,rfl⟩:=Rq.form (st.f 0 rfl)
 refine S.callxg st hF (wanted_by rfl rfl (hF.at 2 rfl) rfl) (r_call Tryz.func44 en44.1 en44.2 (map1 (hF.at 0 rfl))) (oBits_any _ _ _ (st.f 0 rfl)) rfl rfl rfl fun w24 a st hF=>?_
 refine E.opvg hF (r_bin (hF.at 0 rfl) ev_c eg_scalar (bi_int (ic_lss (c:=true) (dec_tt (rlim_bits (n:=4096) (sunV_lim3 (sunr_lim (by assumption) (by omega) (by omega))) (by decide)))) (by simp))) (wanted_by rfl rfl (hF.at 3 rfl) rfl) rfl rfl rfl fun a hF=>?_
 refine E.opv hF (r_pick_t (hF.at 4 rfl) (hF.at 0 rfl)) rfl rfl rfl rfl fun a hF=>?_
 refine E.opv hF (r_move (hF.at 0 rfl)) rfl rfl rfl rfl fun a hF=>?_
 refine E.opvg hF (r_load (hF.at 19 rfl) (ld_all ty_Rat (st.bk 0 rfl) rfl)) (wanted_by rfl rfl (hF.at 0 rfl) rfl) rfl rfl rfl fun a hF=>?_
 refine S.callg st hF (wanted_by rfl rfl (hF.at 1 rfl) rfl) (r_call Tryz.func46 en46.1 en46.2 (map1 (hF.at 0 rfl))) (oMoon_any _ _ 3 _ (hT.below st.bel) (st.f 3 rfl) (sunr_lim (by first|assumption|exact⟨by omega,by omega,by omega,by omega,by omega,by omega,by omega,by omega⟩) (by omega) (by omega)) (by omega)) (fun _ _ h=>h) Rq.cl rfl rfl rfl fun vv26 w25 a st hF=>?_
 obtain⟨b28,ad28,n28,c28,ae28,m28,d28,rfl⟩:=Rq.form (st.f 0 rfl)
 refine S.callxg st hF (wanted_by rfl rfl (hF.at 2 rfl) rfl) (r_call Tryz.func44 en44.1 en44.2 (map1 (hF.at 0 rfl))) (oBits_any _ _ _ (st.f 0 rfl)) rfl rfl rfl fun w29 a st hF=>?_
 refine E.opvg hF (r_bin (hF.at 0 rfl) ev_c eg_scalar (bi_int (ic_lss (c:=true) (dec_tt (rlim_bits (n:=4096) (moonV_lim3 (sunr_lim (by assumption) (by omega) (by omega))) (by decide)))) (by simp))) (wanted_by rfl rfl (hF.at 3 rfl) rfl) rfl rfl rfl fun a hF=>?_
 refine E.opv hF (r_pick_t (hF.at 4 rfl) (hF.at 0 rfl)) rfl rfl rfl rfl fun a hF=>?_
 refine E.opv hF (r_move (hF.at 0 rfl)) rfl rfl rfl rfl fun a hF=>?_
 refine E.opvg hF (r_load (hF.at 25 rfl) (ld_all ty_Rat (st.bk 0 rfl) rfl)) (wanted_by rfl rfl (hF.at 0 rfl) rfl) rfl rfl rfl fun a hF=>?_
 refine S.callg st hF (wanted_by rfl rfl (hF.at 1 rfl) rfl) (r_call Tryz.func47 en47.1 en47.2 (map1 (hF.at 0 rfl))) (oPhase_any _ _ 3 _ (hT.below st.bel) (st.f 4 rfl) (sunr_lim (by first|assumption|exact⟨by omega,by omega,by omega,by omega,by omega,by omega,by omega,by omega⟩) (by omega) (by omega)) (by omega)) (fun _ _ h=>h) Rq.cl rfl rfl rfl fun vv31 w30 a st hF=>?_
 obtain⟨b33,ad33,n33,c33,ae33,m33,d33,rfl⟩:=Rq.form (st.f 0 rfl)
 refine S.callxg st hF (wanted_by rfl rfl (hF.at 2 rfl) rfl) (r_call Tryz.func44 en44.1 en44.2 (map1 (hF.at 0 rfl))) (oBits_any _ _ _ (st.f 0 rfl)) rfl rfl rfl fun w34 a st hF=>?_
 refine E.opvg hF (r_bin (hF.at 0 rfl) ev_c eg_scalar (bi_int (ic_lss (c:=true) (dec_tt (rlim_bits (n:=4096) (phaseV_lim3 (sunr_lim (by assumption) (by omega) (by omega))) (by decide)))) (by simp))) (wanted_by rfl rfl (hF.at 3 rfl) rfl) rfl rfl rfl fun a hF=>?_
 refine E.opv hF (r_pick_t (hF.at 4 rfl) (hF.at 0 rfl)) rfl rfl rfl rfl fun a hF=>?_
 refine E.opset (L':=[(10,.bool true),(55,.bool true),(54,.bool true),(53,.int .i64 (max ((dl 2 (Int.natAbs (Rat.num (phaseV (grainV (dawV (inD da) (gA 60 120 la lb) (gB lb) (gA 180 360 lc ld) (gB ld)))))):Nat):Int) ((dl 2 (Rat.den (phaseV (grainV (dawV (inD da) (gA 60 120 la lb) (gB lb) (gA 180 360 lc ld) (gB ld))))):Nat):Int))),(52,.agg #[.bool b33,.slice ad33 n33 c33,.slice ae33 m33 d33]),(51,.agg #[.bool b8,.slice ad8 n8 c8,.slice ae8 m8 d8]),(50,.bool true),(49,.bool true),(48,.bool true),(47,.int .i64 (max ((dl 2 (Int.natAbs (Rat.num (moonV (grainV (dawV (inD da) (gA 60 120 la lb) (gB lb) (gA 180 360 lc ld) (gB ld)))))):Nat):Int) ((dl 2 (Rat.den (moonV (grainV (dawV (inD da) (gA 60 120 la lb) (gB lb) (gA 180 360 lc ld) (gB ld))))):Nat):Int))),(46,.agg #[.bool b28,.slice ad28 n28 c28,.slice ae28 m28 d28]),(45,.agg #[.bool b8,.slice ad8 n8 c8,.slice ae8 m8 d8]),(44,.bool true),(43,.bool true),(42,.bool true),(41,.int .i64 (max ((dl 2 (Int.natAbs (Rat.num (sunV (grainV (dawV (inD da) (gA 60 120 la lb) (gB lb) (gA 180 360 lc ld) (gB ld)))))):Nat):Int) ((dl 2 (Rat.den (sunV (grainV (dawV (inD da) (gA 60 120 la lb) (gB lb) (gA 180 360 lc ld) (gB ld))))):Nat):Int))),(40,.agg #[.bool b23,.slice ad23 n23 c23,.slice ae23 m23 d23]),(39,.agg #[.bool b8,.slice ad8 n8 c8,.slice ae8 m8 d8]),(38,.bool true),(37,.bool true),(36,.bool true),(35,.int .i64 (max ((dl 2 (Int.natAbs (Rat.num (dusV (inD da) (gA 60 120 la lb) (gB lb) (gA 180 360 lc ld) (gB ld)))):Nat):Int) ((dl 2 (Rat.den (dusV (inD da) (gA 60 120 la lb) (gB lb) (gA 180 360 lc ld) (gB ld))):Nat):Int))),(34,.agg #[.bool b18,.slice ad18 n18 c18,.slice ae18 m18 d18]),(33,.agg #[.int .i64 (gA 60 120 la lb),.int .i64 (gB lb),.int .i64 (gA 180 360 lc ld),.int .i64 (gB ld)]),(32,.int .i64 (inD da)),(31,.bool true),(30,.bool true),(29,.int .i64 (max ((dl 2 (Int.natAbs (Rat.num (dawV (inD da) (gA 60 120 la lb) (gB lb) (gA 180 360 lc ld) (gB ld)))):Nat):Int) ((dl 2 (Rat.den (dawV (inD da) (gA 60 120 la lb) (gB lb) (gA 180 360 lc ld) (gB ld))):Nat):Int))),(28,.agg #[.bool b13,.slice ad13 n13 c13,.slice ae13 m13 d13]),(27,.agg #[.int .i64 (gA 60 120 la lb),.int .i64 (gB lb),.int .i64 (gA 180 360 lc ld),.int .i64 (gB ld)]),(26,.int .i64 (inD da)),(13,.pointer (some ⟨g13,0,none⟩)),(25,.agg #[.bool b8,.slice ad8 n8 c8,.slice ae8 m8 d8]),(24,.agg #[.int .i64 (gA 60 120 la lb),.int .i64 (gB lb),.int .i64 (gA 180 360 lc ld),.int .i64 (gB ld)]),(23,.int .i64 (inD da)),(12,.pointer (some ⟨g12,0,none⟩)),(22,.agg #[.int .i64 (gA 60 120 la lb),.int .i64 (gB lb),.int .i64 (gA 180 360 lc ld),.int .i64 (gB ld)]),(21,.int .i64 ld),(20,.int .i64 lc),(19,.int .i64 lb),(18,.int .i64 la),(11,.int .i64 (inD da)),(17,.int .i64 (inD da)),(16,.int .i64 da),(15,.bool false),(14,.bool true),(0,.int .i64 da),(1,.int .i64 la),(2,.int .i64 lb),(3,.int .i64 lc),(4,.int .i64 ld)]) hF (r_assign (hF.at 0 rfl)) rfl rfl rfl rfl fun a hF=>?_
 refine E.nil ?_
 refine wp_ret ?_
 have bel:=st.bel
 refine bodyPost_ret (res_tmp Tryz.results7 (hF.at 0 rfl)) hF.dfr ?_
 exact⟨rfl,bel⟩
end Go.Proofs.YtpkhdajnppoinaaGreatDoor
