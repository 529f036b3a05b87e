import Derived.Test.YtplngpfpcheofaaKC37
namespace Go.Proofs.Ytplngpfpcheofaa
open Go.RowKit
set_option maxRecDepth 100000
set_option linter.unusedVariables false
set_option maxHeartbeats 8000000
theorem en4:(Try.f4.name == "runtime.NumGoroutine")=false∧Try.f4.body.isNone=false:=⟨by decide+kernel,by kernel_rfl⟩
theorem en14:(Try.f14.name == "runtime.NumGoroutine")=false∧Try.f14.body.isNone=false:=⟨by decide+kernel,by kernel_rfl⟩
theorem awF_any (v1:Value) (qt:Rat) (k:Nat) (w:World) (h1:Rq w v1 qt) (hl:RLim qt k) (hk:k≤100):
 Calls Try.prog 14 #[v1] w (ValPost w (.bool (awp qt))):=by
 have st:=St.start w
 refine E.enter (nt:=7) (L:=[(0,v1)]) Try.func14 rfl rfl rfl (args_cons (i:=0) rfl args_nil) ?_
 intro a hF
 refine wp_seq ?_
 refine E.seq ?_
 obtain⟨b2,ad2,n2,c2,ae2,m2,d2,rfl⟩:=Rq.form h1
 refine S.box st hF (hF.at 0 rfl) rfl rfl fun g1 w1 a st hF=>?_
 refine E.opv hF (r_assign ev_c) rfl rfl rfl rfl fun a hF=>?_
 refine E.nil ?_
 refine wp_seq ?_
 refine E.drawn 4 mixed hF [3,4,5,6] [(fun _ v=>v= .agg #[.bool b2,.slice ad2 n2 c2,.slice ae2 m2 d2]),(fun w v=>Rq w v (((1:Int):Rat)/((3:Int):Rat))),(fun _ v=>v= .int .i64 (qc (qt) (((1:Int):Rat)/((3:Int):Rat)))),(fun _ v=>v= .bool (decide (0<qc (qt) (((1:Int):Rat)/((3:Int):Rat)))))] [] (by decide+kernel) (by decide+kernel) rfl rfl rfl ⟨(Mb.eq _),(fun _ _ _ h hb=>h.below hb),(Mb.eq _),(Mb.eq _),trivial⟩ trivial ⟨?_,?_,?_,?_,trivial⟩ ?_
 ·intro a' w' hF' hb hd
  exact dv0 (r_load (hF'.at 1 rfl) (ld_all ty_Rat ((st.bk 0 rfl).below hb) rfl)) rfl rfl rfl
 ·intro a' w' hF' hb hd
  exact dc0 (r_call Try.func15 en15.1 en15.2 (map2 ev_c ev_c)) (rOf2_any (1) (3) _ (by decide) (by decide) (by decide) (by decide)) rfl rfl
 ·intro a' w' hF' hb hd
  have e3:=sHe hd 0 3 rfl rfl rfl rfl
  obtain⟨v4_0,e4,h4_1⟩:=sH hd 1 4 rfl rfl rfl rfl
  exact dcx0 (r_call Try.func8 en8.1 en8.2 (map2 e3 e4)) (rCmp_any _ _ (qt) _ (max k 2) _ (h1.below (below_to st.bel hb)) h4_1 (hl.up _ (by omega)) ((RLim.up (rlim_mk2 (limz_64 (by decide) (by decide)) (limz_64 (by decide) (by decide))) 2 (by decide)).up _ (by omega)) (by omega)) (fun _=>rfl) rfl rfl
 ·intro a' w' hF' hb hd
  have e5:=sHe hd 0 5 rfl rfl rfl rfl
  exact dv0 (r_bin e5 ev_c eg_scalar (bi_int (ic_gtr (c:=decide (0<qc (qt) (((1:Int):Rat)/((3:Int):Rat)))) rfl) (by simp))) rfl rfl rfl
 intro a w3 hF bb hall hne
 replace st:=st.to bb
 have e6:=sSe hall 3 6 rfl rfl
 clear hall hne bb
 replace hF:=hF.add e6
 clear e6
 refine E.opset (L':=[(2,.bool (decide (0<qc (qt) (((1:Int):Rat)/((3:Int):Rat))))),(6,.bool (decide (0<qc (qt) (((1:Int):Rat)/((3:Int):Rat))))),(1,.pointer (some ⟨g1,0,none⟩)),(0,.agg #[.bool b2,.slice ad2 n2 c2,.slice ae2 m2 d2])]) hF (r_assign (hF.at 0 rfl)) rfl rfl rfl rfl fun a hF=>?_
 refine E.nil ?_
 refine wp_ret ?_
 have bel:=st.bel
 refine bodyPost_ret (res_tmp Try.results14 (hF.at 0 rfl)) hF.dfr ?_
 exact⟨rfl,bel⟩
theorem ask_aw (w:World):AskP w 14 #[] 100 awp:=
 ⟨⟨_,Try.func14,en14.1,en14.2⟩,fun v q w' hb hv hl=>awF_any v q 100 w' hv hl (by decide)⟩
theorem awake15_any (w:World):
 Calls Try.prog 4 #[] w (ValPost w (.bool true)):=by
 have st:=St.start w
 refine E.enter (nt:=25) (L:=[]) Try.func4 rfl rfl rfl args_nil ?_
 intro a hF
 refine wp_seq ?_
 refine E.seq ?_
 refine E.opv hF (r_assign ev_c) rfl rfl rfl rfl fun a hF=>?_
 refine E.nil ?_
 refine wp_seq ?_
 refine E.seq ?_
 refine E.opv hF (r_build (by simp) (bd_Rat_ _)) rfl rfl rfl rfl fun a hF=>?_
 refine S.call st hF (r_call Try.func9 en9.1 en9.2 (map1 ev_c)) (rWhole_any (1) _ (by decide) (by decide)) (fun _ _ h=>h) Rq.cl rfl rfl rfl rfl fun vv2 w1 a st hF=>?_
 obtain⟨b4,ad4,n4,c4,ae4,m4,d4,rfl⟩:=Rq.form (st.f 0 rfl)
 refine S.call2 st hF (r_call Try.func6 en6.1 en6.2 (map4s (hF.at 1 rfl) (hF.at 0 rfl) ev_c rfl)) (bis_any _ _ (0) _ 1 2 21 21 _ _ awp _ (Rq.zero _) (st.f 0 rfl) (rlim_zero (by decide)) (rlim_int (limz_64 (by decide) (by decide)) (by omega)) (by omega) (by omega) (by decide) (by omega) ((ask_aw _).to (by omega))) (fun _ _ h=>h) Rq.cl Rq.cl rfl rfl rfl rfl fun vv6 vv7 w5 a st hF=>?_
 obtain⟨b10,ad10,n10,c10,ae10,m10,d10,rfl⟩:=Rq.form (st.f 0 rfl)
 obtain⟨b11,ad11,n11,c11,ae11,m11,d11,rfl⟩:=Rq.form (st.f 1 rfl)
 refine E.opv hF (r_move (hF.at 0 rfl)) rfl rfl rfl rfl fun a hF=>?_
 refine E.opv hF (r_extract (v:= .agg #[.bool b10,.slice ad10 n10 c10,.slice ae10 m10 d10]) (hF.at 0 rfl) rfl) rfl rfl rfl rfl fun a hF=>?_
 refine E.opv hF (r_extract (v:= .agg #[.bool b11,.slice ad11 n11 c11,.slice ae11 m11 d11]) (hF.at 1 rfl) rfl) rfl rfl rfl rfl fun a hF=>?_
 refine S.alloc st hF ty_Rat rfl rfl fun g1 w12 a st hF=>?_
 refine S.alloc st hF ty_Rat rfl rfl fun g2 w13 a st hF=>?_
 refine S.sto st hF 1 rfl (hF.at 1 rfl) (hF.at 3 rfl) ty_Rat rfl rfl rfl rfl fun w14 a st hF=>?_
 refine S.sto st hF 0 rfl (hF.at 0 rfl) (hF.at 2 rfl) ty_Rat rfl rfl rfl rfl fun w15 a st hF=>?_
 refine E.nil ?_
 refine wp_seq ?_
 refine E.drawn 16 mixed hF [9,10,11,12,13,14,15,16,17,18,19,20,21,22,23,24] [(fun _ v=>v= .agg #[.bool b10,.slice ad10 n10 c10,.slice ae10 m10 d10]),(fun w v=>Rq w v (((699050:Int):Rat)/((2097152:Int):Rat))),(fun _ v=>v= .bool true),(fun _ v=>v= .bool true),(fun _ v=>v= .agg #[.bool b11,.slice ad11 n11 c11,.slice ae11 m11 d11]),(fun w v=>Rq w v (((699051:Int):Rat)/((2097152:Int):Rat))),(fun _ v=>v= .bool true),(fun _ v=>v= .bool true),(fun _ v=>v= .bool true),(fun _ v=>v= .int .i64 (kP 2)),(fun _ v=>v= .bool true),(fun _ v=>v= .bool true),(fun _ v=>v= .bool true),(fun _ v=>v= .int .i64 (kP 5)),(fun _ v=>v= .bool true),(fun _ v=>v= .bool true)] [] (by decide+kernel) (by decide+kernel) rfl rfl rfl ⟨(Mb.eq _),(fun _ _ _ h hb=>h.below hb),(Mb.eq _),(Mb.eq _),(Mb.eq _),(fun _ _ _ h hb=>h.below hb),(Mb.eq _),(Mb.eq _),(Mb.eq _),(Mb.eq _),(Mb.eq _),(Mb.eq _),(Mb.eq _),(Mb.eq _),(Mb.eq _),(Mb.eq _),trivial⟩ trivial ⟨?_,?_,?_,?_,?_,?_,?_,?_,?_,?_,?_,?_,?_,?_,?_,?_,trivial⟩ ?_
 ·intro a' w' hF' hb hd
  exact dv0 (r_load (hF'.at 1 rfl) (ld_all ty_Rat ((st.bk 1 rfl).below hb) rfl)) rfl rfl rfl
 ·intro a' w' hF' hb hd
  exact dc0 (r_call Try.func15 en15.1 en15.2 (map2 ev_c ev_c)) (rOf2_any (699050) (2097152) _ (by decide) (by decide) (by decide) (by decide)) rfl rfl
 ·intro a' w' hF' hb hd
  have e9:=sHe hd 0 9 rfl rfl rfl rfl
  obtain⟨v10_0,e10,h10_1⟩:=sH hd 1 10 rfl rfl rfl rfl
  exact dcx0 (r_call Try.func13 en13.1 en13.2 (map2 e9 e10)) (rSame_true _ _ _ _ _ ((st.f 0 rfl).below hb) h10_1 aw_lo) (fun _=>rfl) rfl rfl
 ·intro a' w' hF' hb hd
  have e11:=sHe hd 0 11 rfl rfl rfl rfl
  exact dv0 (r_move e11) rfl rfl rfl
 ·intro a' w' hF' hb hd
  have e12:=sHe hd 0 12 rfl rfl rfl rfl
  exact dv1 (wanted_by rfl rfl e12 rfl) (r_load (hF'.at 0 rfl) (ld_all ty_Rat ((st.bk 0 rfl).below hb) rfl)) rfl rfl
 ·intro a' w' hF' hb hd
  have e12:=sHe hd 0 12 rfl rfl rfl rfl
  exact dc1 (wanted_by rfl rfl e12 rfl) (r_call Try.func15 en15.1 en15.2 (map2 ev_c ev_c)) (rOf2_any (699051) (2097152) _ (by decide) (by decide) (by decide) (by decide)) rfl
 ·intro a' w' hF' hb hd
  have e12:=sHe hd 3 12 rfl rfl rfl rfl
  have e13:=sHe hd 0 13 rfl rfl rfl rfl
  obtain⟨v14_0,e14,h14_1⟩:=sH hd 1 14 rfl rfl rfl rfl
  exact dcx1 (wanted_by rfl rfl e12 rfl) (r_call Try.func13 en13.1 en13.2 (map2 e13 e14)) (rSame_true _ _ _ _ _ ((st.f 1 rfl).below hb) h14_1 aw_hi) (fun _=>rfl) rfl
 ·intro a' w' hF' hb hd
  have e12:=sHe hd 0 12 rfl rfl rfl rfl
  have e15:=sHe hd 1 15 rfl rfl rfl rfl
  exact dv0 (r_pick_t e12 e15) rfl rfl rfl
 ·intro a' w' hF' hb hd
  have e16:=sHe hd 0 16 rfl rfl rfl rfl
  exact dv0 (r_move e16) rfl rfl rfl
 ·intro a' w' hF' hb hd
  have e17:=sHe hd 0 17 rfl rfl rfl rfl
  exact dcx1 (wanted_by rfl rfl e17 rfl) (r_call Try.func16 en16.1 en16.2 (map1 ev_c)) (skParts_any 2 _) (fun _=>rfl) rfl
 ·intro a' w' hF' hb hd
  have e17:=sHe hd 1 17 rfl rfl rfl rfl
  have e18:=sHe hd 0 18 rfl rfl rfl rfl
  exact dv1 (wanted_by rfl rfl e17 rfl) (r_bin e18 ev_c eg_scalar (bi_int (ic_eql (c:=true) (dec_tt (by decide))) (by simp))) rfl rfl
 ·intro a' w' hF' hb hd
  have e17:=sHe hd 0 17 rfl rfl rfl rfl
  have e19:=sHe hd 1 19 rfl rfl rfl rfl
  exact dv0 (r_pick_t e17 e19) rfl rfl rfl
 ·intro a' w' hF' hb hd
  have e20:=sHe hd 0 20 rfl rfl rfl rfl
  exact dv0 (r_move e20) rfl rfl rfl
 ·intro a' w' hF' hb hd
  have e21:=sHe hd 0 21 rfl rfl rfl rfl
  exact dcx1 (wanted_by rfl rfl e21 rfl) (r_call Try.func16 en16.1 en16.2 (map1 ev_c)) (skParts_any 5 _) (fun _=>rfl) rfl
 ·intro a' w' hF' hb hd
  have e21:=sHe hd 1 21 rfl rfl rfl rfl
  have e22:=sHe hd 0 22 rfl rfl rfl rfl
  exact dv1 (wanted_by rfl rfl e21 rfl) (r_bin e22 ev_c eg_scalar (bi_int (ic_eql (c:=true) (dec_tt (by decide))) (by simp))) rfl rfl
 ·intro a' w' hF' hb hd
  have e21:=sHe hd 0 21 rfl rfl rfl rfl
  have e23:=sHe hd 1 23 rfl rfl rfl rfl
  exact dv0 (r_pick_t e21 e23) rfl rfl rfl
 intro a w16 hF bb hall hne
 replace st:=st.to bb
 have e24:=sSe hall 15 24 rfl rfl
 clear hall hne bb
 replace hF:=hF.add e24
 clear e24
 refine E.opset (L':=[(0,.bool true),(24,.bool true),(2,.pointer (some ⟨g2,0,none⟩)),(1,.pointer (some ⟨g1,0,none⟩)),(8,.agg #[.bool b11,.slice ad11 n11 c11,.slice ae11 m11 d11]),(7,.agg #[.bool b10,.slice ad10 n10 c10,.slice ae10 m10 d10]),(3,.tuple #[.agg #[.bool b10,.slice ad10 n10 c10,.slice ae10 m10 d10],.agg #[.bool b11,.slice ad11 n11 c11,.slice ae11 m11 d11]]),(6,.tuple #[.agg #[.bool b10,.slice ad10 n10 c10,.slice ae10 m10 d10],.agg #[.bool b11,.slice ad11 n11 c11,.slice ae11 m11 d11]]),(5,.agg #[.bool b4,.slice ad4 n4 c4,.slice ae4 m4 d4]),(4,.agg #[.bool false,.slice none 0 0,.slice none 0 0])]) hF (r_assign (hF.at 0 rfl)) rfl rfl rfl rfl fun a hF=>?_
 refine E.nil ?_
 refine wp_ret ?_
 have bel:=st.bel
 refine bodyPost_ret (res_tmp Try.results4 (hF.at 0 rfl)) hF.dfr ?_
 exact⟨rfl,bel⟩
end Go.Proofs.Ytplngpfpcheofaa
