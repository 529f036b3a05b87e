import Derived.Test.YtpkhdajnppoinaaGreatKC38
import Derived.Test.YtpkhdajnppoinaaGreatKC39
namespace Go.Proofs.YtpkhdajnppoinaaGreat
open Go.RowKit
set_option maxRecDepth 100000
set_option linter.unusedVariables false
set_option maxHeartbeats 8000000
theorem en25:(Tryz.f25.name == "runtime.NumGoroutine")=false∧Tryz.f25.body.isNone=false:=⟨by decide+kernel,by kernel_rfl⟩
theorem qc_gt13 {a b:Rat}:0<qc a b↔b<a:=by
 rw[qc_def]
 split
 ·constructor <;> intro <;> first|grind|omega
 ·split
  ·constructor <;> intro <;> first|grind|omega
  ·constructor <;> intro <;> first|grind|omega
theorem aw13t:((cx (((463:Int):Rat)/((20:Int):Rat))++[44]++cx (((45461:Int):Rat)/((600:Int):Rat))).map UInt8.ofNat == ([52,54,51,47,50,48,44,52,53,52,54,49,47,54,48,48]:List Nat).map UInt8.ofNat)=true:=str_same (by decide+kernel)
theorem awake13_any (w:World) (hM:MLen w):
 Calls Tryz.prog 5 #[] w (ValPost w (.bool true)):=by
 have st:=St.start w
 refine E.enter (nt:=30) (L:=[]) Tryz.func5 rfl rfl rfl args_nil ?_
 intro a hF
 refine wp_seq ?_
 refine E.seq ?_
 refine E.opv hF (r_assign ev_c) rfl rfl rfl rfl fun a hF=>?_
 refine E.nil ?_
 refine wp_seq ?_
 refine E.seq ?_
 refine S.callx st hF (r_call Tryz.func6 en6.1 en6.2 (map1 ev_c)) (pParse_any ([52,54,51,47,50,48,44,52,53,52,54,49,47,54,48,48]) _ (hM.below st.bel) (by decide) (by first|omega|decide)) rfl rfl rfl rfl fun w1 a st hF=>?_
 have hpb:=pp_bd ([52,54,51,47,50,48,44,52,53,52,54,49,47,54,48,48])
 refine E.opv hF (r_move (hF.at 0 rfl)) rfl rfl rfl rfl fun a hF=>?_
 refine E.opv hF (r_extract (v:= .agg #[.int .i64 (ppI ([52,54,51,47,50,48,44,52,53,52,54,49,47,54,48,48]) (anA (hd44 ([52,54,51,47,50,48,44,52,53,52,54,49,47,54,48,48])))),.int .i64 (ppI ([52,54,51,47,50,48,44,52,53,52,54,49,47,54,48,48]) (anB (hd44 ([52,54,51,47,50,48,44,52,53,52,54,49,47,54,48,48])))),.int .i64 (ppI ([52,54,51,47,50,48,44,52,53,52,54,49,47,54,48,48]) (anA (tl44 ([52,54,51,47,50,48,44,52,53,52,54,49,47,54,48,48])))),.int .i64 (ppI ([52,54,51,47,50,48,44,52,53,52,54,49,47,54,48,48]) (anB (tl44 ([52,54,51,47,50,48,44,52,53,52,54,49,47,54,48,48]))))]) (hF.at 0 rfl) rfl) rfl rfl rfl rfl fun a hF=>?_
 refine E.opv hF (r_extract (v:= .int .i64 (ppE ([52,54,51,47,50,48,44,52,53,52,54,49,47,54,48,48]))) (hF.at 1 rfl) rfl) rfl rfl rfl rfl fun a hF=>?_
 refine S.new st hF 1 rfl ty_Plc rfl rfl rfl rfl rfl fun g1 w2 a st hF=>?_
 refine E.opv hF (r_assign (hF.at 1 rfl)) rfl rfl rfl rfl fun a hF=>?_
 refine E.nil ?_
 refine wp_seq ?_
 refine E.drawn 23 mixed hF [7,8,9,10,11,12,13,14,15,16,17,18,19,20,21,22,23,24,25,26,27,28,29] [(fun _ v=>v= .agg #[.int .i64 463,.int .i64 20,.int .i64 45461,.int .i64 600]),(fun _ v=>v= .string (bstr (cx ((((463):Int):Rat)/(((20):Int):Rat))++[44]++cx ((((45461):Int):Rat)/(((600):Int):Rat))))),(fun _ v=>v= .bool true),(fun _ v=>v= .bool true),(fun _ v=>v= .int .i64 (ppE ([52,54,51,47,50,48,44,52,53,52,54,49,47,54,48,48]))),(fun _ v=>v= .bool true),(fun _ v=>v= .bool true),(fun _ v=>v= .bool true),(fun _ v=>v= .agg #[.int .i64 (ppI ([52,54,51,47,50,48,44,52,53,52,54,49,47,54,48,48]) (anA (hd44 ([52,54,51,47,50,48,44,52,53,52,54,49,47,54,48,48])))),.int .i64 (ppI ([52,54,51,47,50,48,44,52,53,52,54,49,47,54,48,48]) (anB (hd44 ([52,54,51,47,50,48,44,52,53,52,54,49,47,54,48,48])))),.int .i64 (ppI ([52,54,51,47,50,48,44,52,53,52,54,49,47,54,48,48]) (anA (tl44 ([52,54,51,47,50,48,44,52,53,52,54,49,47,54,48,48])))),.int .i64 (ppI ([52,54,51,47,50,48,44,52,53,52,54,49,47,54,48,48]) (anB (tl44 ([52,54,51,47,50,48,44,52,53,52,54,49,47,54,48,48]))))]),(fun _ v=>v= .agg #[.int .i64 463,.int .i64 20,.int .i64 45461,.int .i64 600]),(fun _ v=>v= .bool true),(fun _ v=>v= .bool true),(fun _ v=>v= .bool true),(fun _ v=>v= .agg #[.int .i64 (ppI ([52,54,51,47,50,48,44,52,53,52,54,49,47,54,48,48]) (anA (hd44 ([52,54,51,47,50,48,44,52,53,52,54,49,47,54,48,48])))),.int .i64 (ppI ([52,54,51,47,50,48,44,52,53,52,54,49,47,54,48,48]) (anB (hd44 ([52,54,51,47,50,48,44,52,53,52,54,49,47,54,48,48])))),.int .i64 (ppI ([52,54,51,47,50,48,44,52,53,52,54,49,47,54,48,48]) (anA (tl44 ([52,54,51,47,50,48,44,52,53,52,54,49,47,54,48,48])))),.int .i64 (ppI ([52,54,51,47,50,48,44,52,53,52,54,49,47,54,48,48]) (anB (tl44 ([52,54,51,47,50,48,44,52,53,52,54,49,47,54,48,48]))))]),(fun _ v=>v= .int .i64 (plE (ppI ([52,54,51,47,50,48,44,52,53,52,54,49,47,54,48,48]) (anA (hd44 ([52,54,51,47,50,48,44,52,53,52,54,49,47,54,48,48])))) (ppI ([52,54,51,47,50,48,44,52,53,52,54,49,47,54,48,48]) (anB (hd44 ([52,54,51,47,50,48,44,52,53,52,54,49,47,54,48,48])))) (ppI ([52,54,51,47,50,48,44,52,53,52,54,49,47,54,48,48]) (anA (tl44 ([52,54,51,47,50,48,44,52,53,52,54,49,47,54,48,48])))) (ppI ([52,54,51,47,50,48,44,52,53,52,54,49,47,54,48,48]) (anB (tl44 ([52,54,51,47,50,48,44,52,53,52,54,49,47,54,48,48])))))),(fun _ v=>v= .bool true),(fun _ v=>v= .bool true),(fun _ v=>v= .bool true),(fun _ v=>v= .agg #[.int .i64 (ppI ([52,54,51,47,50,48,44,52,53,52,54,49,47,54,48,48]) (anA (hd44 ([52,54,51,47,50,48,44,52,53,52,54,49,47,54,48,48])))),.int .i64 (ppI ([52,54,51,47,50,48,44,52,53,52,54,49,47,54,48,48]) (anB (hd44 ([52,54,51,47,50,48,44,52,53,52,54,49,47,54,48,48])))),.int .i64 (ppI ([52,54,51,47,50,48,44,52,53,52,54,49,47,54,48,48]) (anA (tl44 ([52,54,51,47,50,48,44,52,53,52,54,49,47,54,48,48])))),.int .i64 (ppI ([52,54,51,47,50,48,44,52,53,52,54,49,47,54,48,48]) (anB (tl44 ([52,54,51,47,50,48,44,52,53,52,54,49,47,54,48,48]))))]),(fun w v=>Rq w v (((ppI ([52,54,51,47,50,48,44,52,53,52,54,49,47,54,48,48]) (anA (hd44 ([52,54,51,47,50,48,44,52,53,52,54,49,47,54,48,48]))):Int):Rat)/((ppI ([52,54,51,47,50,48,44,52,53,52,54,49,47,54,48,48]) (anB (hd44 ([52,54,51,47,50,48,44,52,53,52,54,49,47,54,48,48]))):Int):Rat))),(fun w v=>Rq w v (((463:Int):Rat)/((20:Int):Rat))),(fun _ v=>v= .bool true),(fun _ v=>v= .bool true)] [] (by decide+kernel) (by decide+kernel) rfl rfl rfl ⟨(Mb.eq _),(Mb.eq _),(Mb.eq _),(Mb.eq _),(Mb.eq _),(Mb.eq _),(Mb.eq _),(Mb.eq _),(Mb.eq _),(Mb.eq _),(Mb.eq _),(Mb.eq _),(Mb.eq _),(Mb.eq _),(Mb.eq _),(Mb.eq _),(Mb.eq _),(Mb.eq _),(Mb.eq _),(fun _ _ _ h hb=>h.below hb),(fun _ _ _ h hb=>h.below hb),(Mb.eq _),(Mb.eq _),trivial⟩ trivial ⟨?_,?_,?_,?_,?_,?_,?_,?_,?_,?_,?_,?_,?_,?_,?_,?_,?_,?_,?_,?_,?_,?_,?_,trivial⟩ ?_
 ·intro a' w' hF' hb hd
  exact dcx0 (r_call Tryz.func16 en16.1 en16.2 map0) (pUj_any _) (fun _=>rfl) rfl rfl
 ·intro a' w' hF' hb hd
  have e7:=sHe hd 0 7 rfl rfl rfl rfl
  exact dcx0 (r_call Tryz.func17 en17.1 en17.2 (map1 e7)) (pText_any 463 20 45461 600 _ (by decide) (by decide) (by decide) (by decide) (by decide) (by decide) (by decide) (by decide)) (fun _=>rfl) rfl rfl
 ·intro a' w' hF' hb hd
  have e8:=sHe hd 0 8 rfl rfl rfl rfl
  exact dv0 (r_bin e8 ev_c eg_str (sb_eq (xs:=(cx ((((463):Int):Rat)/(((20):Int):Rat))++[44]++cx ((((45461):Int):Rat)/(((600):Int):Rat)))) (ys:=[52,54,51,47,50,48,44,52,53,52,54,49,47,54,48,48]) aw13t)) rfl rfl rfl
 ·intro a' w' hF' hb hd
  have e9:=sHe hd 0 9 rfl rfl rfl rfl
  exact dv0 (r_move e9) rfl rfl rfl
 ·intro a' w' hF' hb hd
  have e10:=sHe hd 0 10 rfl rfl rfl rfl
  exact dv1 (wanted_by rfl rfl e10 rfl) (r_move (hF'.at 0 rfl)) rfl rfl
 ·intro a' w' hF' hb hd
  have e10:=sHe hd 1 10 rfl rfl rfl rfl
  have e11:=sHe hd 0 11 rfl rfl rfl rfl
  exact dv1 (wanted_by rfl rfl e10 rfl) (r_bin e11 ev_c eg_scalar (bi_int (ic_eql (c:=true) (dec_tt (by decide+kernel))) (by simp))) rfl rfl
 ·intro a' w' hF' hb hd
  have e10:=sHe hd 0 10 rfl rfl rfl rfl
  have e12:=sHe hd 1 12 rfl rfl rfl rfl
  exact dv0 (r_pick_t e10 e12) rfl rfl rfl
 ·intro a' w' hF' hb hd
  have e13:=sHe hd 0 13 rfl rfl rfl rfl
  exact dv0 (r_move e13) rfl rfl rfl
 ·intro a' w' hF' hb hd
  have e14:=sHe hd 0 14 rfl rfl rfl rfl
  exact dv1 (wanted_by rfl rfl e14 rfl) (r_load (hF'.at 1 rfl) (ld_all ty_Plc ((st.bk 0 rfl).below hb) rfl)) rfl rfl
 ·intro a' w' hF' hb hd
  have e14:=sHe hd 0 14 rfl rfl rfl rfl
  exact dcx1 (wanted_by rfl rfl e14 rfl) (r_call Tryz.func16 en16.1 en16.2 map0) (pUj_any _) (fun _=>rfl) rfl
 ·intro a' w' hF' hb hd
  have e14:=sHe hd 2 14 rfl rfl rfl rfl
  have e15:=sHe hd 0 15 rfl rfl rfl rfl
  have e16:=sHe hd 1 16 rfl rfl rfl rfl
  exact dv1 (wanted_by rfl rfl e14 rfl) (r_bin e15 e16 eg_Plc (es_Plc (dec_tt (by decide+kernel)))) rfl rfl
 ·intro a' w' hF' hb hd
  have e14:=sHe hd 0 14 rfl rfl rfl rfl
  have e17:=sHe hd 1 17 rfl rfl rfl rfl
  exact dv0 (r_pick_t e14 e17) rfl rfl rfl
 ·intro a' w' hF' hb hd
  have e18:=sHe hd 0 18 rfl rfl rfl rfl
  exact dv0 (r_move e18) rfl rfl rfl
 ·intro a' w' hF' hb hd
  have e19:=sHe hd 0 19 rfl rfl rfl rfl
  exact dv1 (wanted_by rfl rfl e19 rfl) (r_load (hF'.at 1 rfl) (ld_all ty_Plc ((st.bk 0 rfl).below hb) rfl)) rfl rfl
 ·intro a' w' hF' hb hd
  have e19:=sHe hd 1 19 rfl rfl rfl rfl
  have e20:=sHe hd 0 20 rfl rfl rfl rfl
  exact dcx1 (wanted_by rfl rfl e19 rfl) (r_call Tryz.func8 en8.1 en8.2 (map1 e20)) (pCheck_any (ppI ([52,54,51,47,50,48,44,52,53,52,54,49,47,54,48,48]) (anA (hd44 ([52,54,51,47,50,48,44,52,53,52,54,49,47,54,48,48])))) (ppI ([52,54,51,47,50,48,44,52,53,52,54,49,47,54,48,48]) (anB (hd44 ([52,54,51,47,50,48,44,52,53,52,54,49,47,54,48,48])))) (ppI ([52,54,51,47,50,48,44,52,53,52,54,49,47,54,48,48]) (anA (tl44 ([52,54,51,47,50,48,44,52,53,52,54,49,47,54,48,48])))) (ppI ([52,54,51,47,50,48,44,52,53,52,54,49,47,54,48,48]) (anB (tl44 ([52,54,51,47,50,48,44,52,53,52,54,49,47,54,48,48])))) _) (fun _=>rfl) rfl
 ·intro a' w' hF' hb hd
  have e19:=sHe hd 1 19 rfl rfl rfl rfl
  have e21:=sHe hd 0 21 rfl rfl rfl rfl
  exact dv1 (wanted_by rfl rfl e19 rfl) (r_bin e21 ev_c eg_scalar (bi_int (ic_eql (c:=true) (dec_tt (by decide+kernel))) (by simp))) rfl rfl
 ·intro a' w' hF' hb hd
  have e19:=sHe hd 0 19 rfl rfl rfl rfl
  have e22:=sHe hd 1 22 rfl rfl rfl rfl
  exact dv0 (r_pick_t e19 e22) rfl rfl rfl
 ·intro a' w' hF' hb hd
  have e23:=sHe hd 0 23 rfl rfl rfl rfl
  exact dv0 (r_move e23) rfl rfl rfl
 ·intro a' w' hF' hb hd
  have e24:=sHe hd 0 24 rfl rfl rfl rfl
  exact dv1 (wanted_by rfl rfl e24 rfl) (r_load (hF'.at 1 rfl) (ld_all ty_Plc ((st.bk 0 rfl).below hb) rfl)) rfl rfl
 ·intro a' w' hF' hb hd
  have e24:=sHe hd 1 24 rfl rfl rfl rfl
  have e25:=sHe hd 0 25 rfl rfl rfl rfl
  exact dc1 (wanted_by rfl rfl e24 rfl) (r_call Tryz.func10 en10.1 en10.2 (map1 e25)) (pLatitude_any (ppI ([52,54,51,47,50,48,44,52,53,52,54,49,47,54,48,48]) (anA (hd44 ([52,54,51,47,50,48,44,52,53,52,54,49,47,54,48,48])))) (ppI ([52,54,51,47,50,48,44,52,53,52,54,49,47,54,48,48]) (anB (hd44 ([52,54,51,47,50,48,44,52,53,52,54,49,47,54,48,48])))) (ppI ([52,54,51,47,50,48,44,52,53,52,54,49,47,54,48,48]) (anA (tl44 ([52,54,51,47,50,48,44,52,53,52,54,49,47,54,48,48])))) (ppI ([52,54,51,47,50,48,44,52,53,52,54,49,47,54,48,48]) (anB (tl44 ([52,54,51,47,50,48,44,52,53,52,54,49,47,54,48,48])))) _ (by omega) (by omega) (by omega) (by omega)) rfl
 ·intro a' w' hF' hb hd
  have e24:=sHe hd 1 24 rfl rfl rfl rfl
  exact dc1 (wanted_by rfl rfl e24 rfl) (r_call Tryz.func12 en12.1 en12.2 (map2 ev_c ev_c)) (rOf2_any (463) (20) _ (by decide) (by decide) (by decide) (by decide)) rfl
 ·intro a' w' hF' hb hd
  have e24:=sHe hd 3 24 rfl rfl rfl rfl
  obtain⟨v26_0,e26,h26_1⟩:=sH hd 0 26 rfl rfl rfl rfl
  obtain⟨v27_0,e27,h27_1⟩:=sH hd 1 27 rfl rfl rfl rfl
  exact dcx1 (wanted_by rfl rfl e24 rfl) (r_call Tryz.func18 en18.1 en18.2 (map2 e26 e27)) (rSame_true _ _ _ _ _ h26_1 h27_1 (by decide+kernel)) (fun _=>rfl) rfl
 ·intro a' w' hF' hb hd
  have e24:=sHe hd 0 24 rfl rfl rfl rfl
  have e28:=sHe hd 1 28 rfl rfl rfl rfl
  exact dv0 (r_pick_t e24 e28) rfl rfl rfl
 intro a w3 hF bb hall hne
 replace st:=st.to bb
 have e29:=sSe hall 22 29 rfl rfl
 clear hall hne bb
 replace hF:=hF.add e29
 clear e29
 refine E.opset (L':=[(0,.bool true),(29,.bool true),(2,.int .i64 (ppE ([52,54,51,47,50,48,44,52,53,52,54,49,47,54,48,48]))),(1,.pointer (some ⟨g1,0,none⟩)),(6,.int .i64 (ppE ([52,54,51,47,50,48,44,52,53,52,54,49,47,54,48,48]))),(5,.agg #[.int .i64 (ppI ([52,54,51,47,50,48,44,52,53,52,54,49,47,54,48,48]) (anA (hd44 ([52,54,51,47,50,48,44,52,53,52,54,49,47,54,48,48])))),.int .i64 (ppI ([52,54,51,47,50,48,44,52,53,52,54,49,47,54,48,48]) (anB (hd44 ([52,54,51,47,50,48,44,52,53,52,54,49,47,54,48,48])))),.int .i64 (ppI ([52,54,51,47,50,48,44,52,53,52,54,49,47,54,48,48]) (anA (tl44 ([52,54,51,47,50,48,44,52,53,52,54,49,47,54,48,48])))),.int .i64 (ppI ([52,54,51,47,50,48,44,52,53,52,54,49,47,54,48,48]) (anB (tl44 ([52,54,51,47,50,48,44,52,53,52,54,49,47,54,48,48]))))]),(3,.tuple #[.agg #[.int .i64 (ppI ([52,54,51,47,50,48,44,52,53,52,54,49,47,54,48,48]) (anA (hd44 ([52,54,51,47,50,48,44,52,53,52,54,49,47,54,48,48])))),.int .i64 (ppI ([52,54,51,47,50,48,44,52,53,52,54,49,47,54,48,48]) (anB (hd44 ([52,54,51,47,50,48,44,52,53,52,54,49,47,54,48,48])))),.int .i64 (ppI ([52,54,51,47,50,48,44,52,53,52,54,49,47,54,48,48]) (anA (tl44 ([52,54,51,47,50,48,44,52,53,52,54,49,47,54,48,48])))),.int .i64 (ppI ([52,54,51,47,50,48,44,52,53,52,54,49,47,54,48,48]) (anB (tl44 ([52,54,51,47,50,48,44,52,53,52,54,49,47,54,48,48]))))],.int .i64 (ppE ([52,54,51,47,50,48,44,52,53,52,54,49,47,54,48,48]))]),(4,.tuple #[.agg #[.int .i64 (ppI ([52,54,51,47,50,48,44,52,53,52,54,49,47,54,48,48]) (anA (hd44 ([52,54,51,47,50,48,44,52,53,52,54,49,47,54,48,48])))),.int .i64 (ppI ([52,54,51,47,50,48,44,52,53,52,54,49,47,54,48,48]) (anB (hd44 ([52,54,51,47,50,48,44,52,53,52,54,49,47,54,48,48])))),.int .i64 (ppI ([52,54,51,47,50,48,44,52,53,52,54,49,47,54,48,48]) (anA (tl44 ([52,54,51,47,50,48,44,52,53,52,54,49,47,54,48,48])))),.int .i64 (ppI ([52,54,51,47,50,48,44,52,53,52,54,49,47,54,48,48]) (anB (tl44 ([52,54,51,47,50,48,44,52,53,52,54,49,47,54,48,48]))))],.int .i64 (ppE ([52,54,51,47,50,48,44,52,53,52,54,49,47,54,48,48]))])]) hF (r_assign (hF.at 0 rfl)) rfl rfl rfl rfl fun a hF=>?_
 refine E.nil ?_
 refine wp_ret ?_
 have bel:=st.bel
 refine bodyPost_ret (res_tmp Tryz.results5 (hF.at 0 rfl)) hF.dfr ?_
 exact⟨rfl,bel⟩
theorem far60_any (v1:Value) (q1:Rat) (k:Nat) (w:World) (h1:Rr w v1 q1 k) (hk:k≤1000):
 Calls Tryz.prog 25 #[v1,.int .i64 60] w (ValPost w (.bool (farB 60 q1))):=by
 obtain⟨b1,ad1,n1,c1,ae1,m1,d1,rfl⟩:=h1.form
 have st:=St.start w
 refine E.enter (nt:=11) (L:=[(0,.agg #[.bool b1,.slice ad1 n1 c1,.slice ae1 m1 d1]),(1,.int .i64 60)]) Tryz.func25 rfl rfl rfl (args_cons (i:=0) rfl (args_cons (i:=1) rfl args_nil)) ?_
 intro a hF
 refine wp_seq ?_
 refine E.seq ?_
 refine S.box st hF (hF.at 0 rfl) rfl rfl fun g2 w1 a st hF=>?_
 refine E.opv hF (r_assign ev_c) rfl rfl rfl rfl fun a hF=>?_
 refine E.nil ?_
 refine wp_seq ?_
 refine E.seq ?_
 refine E.opv hF (r_load (hF.at 1 rfl) (ld_all ty_RRat (st.bk 0 rfl) rfl)) rfl rfl rfl rfl fun a hF=>?_
 refine S.call st hF (r_call Tryz.func54 en54.1 en54.2 (map1 (hF.at 0 rfl))) (dAbs_any _ (q1) k _ (h1.below st.bel)) (fun _ _ h=>h) Rr.cl rfl rfl rfl rfl fun vv3 w2 a st hF=>?_
 obtain⟨b5,ad5,n5,c5,ae5,m5,d5,rfl⟩:=Rr.form (st.f 0 rfl)
 refine E.opv hF (r_move (hF.at 5 rfl)) rfl rfl rfl rfl fun a hF=>?_
 refine S.call st hF (r_call Tryz.func47 en47.1 en47.2 (map2 (hF.at 0 rfl) ev_c)) (dOf_any (60) (1) _ (by decide) (by decide) (by decide) (by decide)) (fun _ _ h=>h) Rr.cl rfl rfl rfl rfl fun vv7 w6 a st hF=>?_
 obtain⟨b9,ad9,n9,c9,ae9,m9,d9,rfl⟩:=Rr.form (st.f 0 rfl)
 refine S.callx st hF (r_call Tryz.func53 en53.1 en53.2 (map2 (hF.at 2 rfl) (hF.at 0 rfl))) (dCmp_any _ _ _ _ (max k 2) _ (Rr.up (st.f 1 rfl) _ (by omega)) (Rr.up (st.f 0 rfl) _ (by omega)) (by omega)) rfl rfl rfl rfl fun w10 a st hF=>?_
 refine E.opv hF (r_bin (hF.at 0 rfl) ev_c eg_scalar (bi_int (ic_gtr (c:=decide (0<qc (Rat.abs (q1)) (((60:Int):Rat)/((1:Int):Rat)))) rfl) (by simp))) rfl rfl rfl rfl fun a hF=>?_
 refine E.opset (L':=[(4,.bool (decide (0<qc (Rat.abs (q1)) (((60:Int):Rat)/((1:Int):Rat))))),(10,.bool (decide (0<qc (Rat.abs (q1)) (((60:Int):Rat)/((1:Int):Rat))))),(9,.int .i64 (qc (Rat.abs (q1)) (((60:Int):Rat)/((1:Int):Rat)))),(8,.agg #[.bool b9,.slice ad9 n9 c9,.slice ae9 m9 d9]),(7,.int .i64 60),(6,.agg #[.bool b5,.slice ad5 n5 c5,.slice ae5 m5 d5]),(5,.agg #[.bool b1,.slice ad1 n1 c1,.slice ae1 m1 d1]),(2,.pointer (some ⟨g2,0,none⟩)),(0,.agg #[.bool b1,.slice ad1 n1 c1,.slice ae1 m1 d1]),(1,.int .i64 60)]) hF (r_assign (hF.at 0 rfl)) rfl rfl rfl rfl fun a hF=>?_
 refine E.nil ?_
 refine wp_ret ?_
 have bel:=st.bel
 refine bodyPost_ret (res_tmp Tryz.results25 (hF.at 0 rfl)) hF.dfr ?_
 refine⟨rv_bool ?_,bel⟩
 unfold farB
 rw[show((60:Int):Rat)/((1:Int):Rat)=((60:Int):Rat) by decide+kernel]
 exact decide_eq_decide.2 qc_gt13
theorem far180_any (v1:Value) (q1:Rat) (k:Nat) (w:World) (h1:Rr w v1 q1 k) (hk:k≤1000):
 Calls Tryz.prog 25 #[v1,.int .i64 180] w (ValPost w (.bool (farB 180 q1))):=by
 obtain⟨b1,ad1,n1,c1,ae1,m1,d1,rfl⟩:=h1.form
 have st:=St.start w
 refine E.enter (nt:=11) (L:=[(0,.agg #[.bool b1,.slice ad1 n1 c1,.slice ae1 m1 d1]),(1,.int .i64 180)]) Tryz.func25 rfl rfl rfl (args_cons (i:=0) rfl (args_cons (i:=1) rfl args_nil)) ?_
 intro a hF
 refine wp_seq ?_
 refine E.seq ?_
 refine S.box st hF (hF.at 0 rfl) rfl rfl fun g2 w1 a st hF=>?_
 refine E.opv hF (r_assign ev_c) rfl rfl rfl rfl fun a hF=>?_
 refine E.nil ?_
 refine wp_seq ?_
 refine E.seq ?_
 refine E.opv hF (r_load (hF.at 1 rfl) (ld_all ty_RRat (st.bk 0 rfl) rfl)) rfl rfl rfl rfl fun a hF=>?_
 refine S.call st hF (r_call Tryz.func54 en54.1 en54.2 (map1 (hF.at 0 rfl))) (dAbs_any _ (q1) k _ (h1.below st.bel)) (fun _ _ h=>h) Rr.cl rfl rfl rfl rfl fun vv3 w2 a st hF=>?_
 obtain⟨b5,ad5,n5,c5,ae5,m5,d5,rfl⟩:=Rr.form (st.f 0 rfl)
 refine E.opv hF (r_move (hF.at 5 rfl)) rfl rfl rfl rfl fun a hF=>?_
 refine S.call st hF (r_call Tryz.func47 en47.1 en47.2 (map2 (hF.at 0 rfl) ev_c)) (dOf_any (180) (1) _ (by decide) (by decide) (by decide) (by decide)) (fun _ _ h=>h) Rr.cl rfl rfl rfl rfl fun vv7 w6 a st hF=>?_
 obtain⟨b9,ad9,n9,c9,ae9,m9,d9,rfl⟩:=Rr.form (st.f 0 rfl)
 refine S.callx st hF (r_call Tryz.func53 en53.1 en53.2 (map2 (hF.at 2 rfl) (hF.at 0 rfl))) (dCmp_any _ _ _ _ (max k 2) _ (Rr.up (st.f 1 rfl) _ (by omega)) (Rr.up (st.f 0 rfl) _ (by omega)) (by omega)) rfl rfl rfl rfl fun w10 a st hF=>?_
 refine E.opv hF (r_bin (hF.at 0 rfl) ev_c eg_scalar (bi_int (ic_gtr (c:=decide (0<qc (Rat.abs (q1)) (((180:Int):Rat)/((1:Int):Rat)))) rfl) (by simp))) rfl rfl rfl rfl fun a hF=>?_
 refine E.opset (L':=[(4,.bool (decide (0<qc (Rat.abs (q1)) (((180:Int):Rat)/((1:Int):Rat))))),(10,.bool (decide (0<qc (Rat.abs (q1)) (((180:Int):Rat)/((1:Int):Rat))))),(9,.int .i64 (qc (Rat.abs (q1)) (((180:Int):Rat)/((1:Int):Rat)))),(8,.agg #[.bool b9,.slice ad9 n9 c9,.slice ae9 m9 d9]),(7,.int .i64 180),(6,.agg #[.bool b5,.slice ad5 n5 c5,.slice ae5 m5 d5]),(5,.agg #[.bool b1,.slice ad1 n1 c1,.slice ae1 m1 d1]),(2,.pointer (some ⟨g2,0,none⟩)),(0,.agg #[.bool b1,.slice ad1 n1 c1,.slice ae1 m1 d1]),(1,.int .i64 180)]) hF (r_assign (hF.at 0 rfl)) rfl rfl rfl rfl fun a hF=>?_
 refine E.nil ?_
 refine wp_ret ?_
 have bel:=st.bel
 refine bodyPost_ret (res_tmp Tryz.results25 (hF.at 0 rfl)) hF.dfr ?_
 refine⟨rv_bool ?_,bel⟩
 unfold farB
 rw[show((180:Int):Rat)/((1:Int):Rat)=((180:Int):Rat) by decide+kernel]
 exact decide_eq_decide.2 qc_gt13
end Go.Proofs.YtpkhdajnppoinaaGreat
