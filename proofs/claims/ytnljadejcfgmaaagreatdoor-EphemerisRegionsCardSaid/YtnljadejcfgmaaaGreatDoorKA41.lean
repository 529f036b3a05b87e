import Derived.Test.YtnljadejcfgmaaaGreatDoorKA19
import Derived.Test.YtnljadejcfgmaaaGreatDoorKA22
import Derived.Test.YtnljadejcfgmaaaGreatDoorKA28
import Derived.Test.YtnljadejcfgmaaaGreatDoorKA29
import Derived.Test.YtnljadejcfgmaaaGreatDoorKA39
import Derived.Test.YtnljadejcfgmaaaGreatDoorKA40
namespace Go.Proofs.YtnljadejcfgmaaaGreatDoor
open Go.RowKit
set_option maxRecDepth 100000
set_option linter.unusedVariables false
set_option maxHeartbeats 8000000
theorem en91:(Tryz.f91.name == "runtime.NumGoroutine")=false∧Tryz.f91.body.isNone=false:=⟨by decide+kernel,by kernel_rfl⟩
theorem soSign12_any (v1:Value) (qt:Rat) (k:Nat) (w:World) (hT:TabD w) (h1:Rq w v1 qt) (hl:RLim qt k) (hk:k≤100):Calls Tryz.prog 31 #[v1] w (ValPost w (.int .i64 (kaV qt%12))):=by
 rw[←ka_sign]
 exact oSign_any v1 qt k w hT h1 hl hk
theorem soCrit_any (r n:Int) (xa xb xc xd:Int) (w:World) (hT:TabD w) (hok:PlOk xa xb xc xd) (hn0: -3900000≤n) (hn1:n≤3900000):
 Calls Tryz.prog 16 #[.int .i64 r,.int .i64 n,.agg #[.int .i64 xa,.int .i64 xb,.int .i64 xc,.int .i64 xd]] w (RqPost w (criQ r n xa xb xc xd)):=by
 have hok1:=hok.b0
 have hok2:=hok.b1
 have hok3:=hok.d0
 have hok4:=hok.d1
 have st:=St.start w
 refine E.enter (nt:=40) (L:=[(0,.int .i64 r),(1,.int .i64 n),(2,.agg #[.int .i64 xa,.int .i64 xb,.int .i64 xc,.int .i64 xd])]) Tryz.func16 rfl rfl rfl (args_cons (i:=0) rfl (args_cons (i:=1) rfl (args_cons (i:=2) rfl args_nil))) ?_
 intro a hF
 refine wp_seq ?_
 refine E.seq ?_
 refine S.box st hF (hF.at 2 rfl) rfl rfl fun g5 w1 a st hF=>?_
 refine S.alloc st hF ty_Rat rfl rfl fun g6 w2 a st hF=>?_
 refine E.nil ?_
 refine wp_seq ?_
 refine wp_seq ?_
 refine E.seq ?_
 refine E.opv hF (r_move (hF.at 2 rfl)) rfl rfl rfl rfl fun a hF=>?_
 refine E.nil ?_
 refine wp_block ?_
 refine wp_seq ?_
 refine E.seq ?_
 by_cases hc3:r=0
 ·first
  |(exfalso;omega)
  |(refine E.opv hF (r_bin (hF.at 0 rfl) ev_c eg_scalar (bi_int (ic_eql (c:=true) (dec_tt hc3)) (by simp))) rfl rfl rfl rfl fun a hF=>?_
    refine E.opv hF (r_assign (hF.at 0 rfl)) rfl rfl rfl rfl fun a hF=>?_
    refine E.nil ?_
    refine wp_cond_true (hF.at 0 rfl) ?_
    refine wp_seq ?_
    refine E.seq ?_
    refine E.opv hF (r_move (hF.at 6 rfl)) rfl rfl rfl rfl fun a hF=>?_
    refine E.opv hF (r_bin (hF.at 0 rfl) ev_c eg_scalar (ia_add (by omega) (by omega))) rfl rfl rfl rfl fun a hF=>?_
    refine E.opv hF (r_load (hF.at 6 rfl) (ld_all ty_Plc (st.bk 1 rfl) rfl)) rfl rfl rfl rfl fun a hF=>?_
    refine S.ck st hF (rgc k53 (map2 (hF.at 1 rfl) (hF.at 0 rfl))) (rq_ret (reSunrise_any (n+1) xa xb xc xd _ (hT.below st.bel) (by first|assumption|exact⟨by omega,by omega,by omega,by omega,by omega,by omega,by omega,by omega⟩) (by omega) (by omega)) (sunr_lim (by first|assumption|exact⟨by omega,by omega,by omega,by omega,by omega,by omega,by omega,by omega⟩) (by omega) (by omega))) Rl.cl rfl fun vv5 w4 a st hF=>?_
    obtain⟨b7,ad7,n7,c7,ae7,m7,d7,rfl⟩:=Rq.form (st.f 0 rfl).1
    refine S.sto st hF 0 rfl (hF.at 7 rfl) (hF.at 0 rfl) ty_Rat rfl rfl rfl rfl fun w8 a st hF=>?_
    refine E.nil ?_
    refine wp_ret ?_
    refine S.ret Tryz.results16 st hF (hF.at 7 rfl) 0 rfl ty_Rat rfl hF.dfr ?_
    have bel:=st.bel
    exact⟨_,rfl,Rq.castM (st.f 0 rfl).1 (cri_0 hc3),bel⟩)
 ·first
  |(exfalso;omega)
  |(refine E.opv hF (r_bin (hF.at 0 rfl) ev_c eg_scalar (bi_int (ic_eql (c:=false) (dec_ff hc3)) (by simp))) rfl rfl rfl rfl fun a hF=>?_
    refine E.opv hF (r_assign (hF.at 0 rfl)) rfl rfl rfl rfl fun a hF=>?_
    refine E.nil ?_
    refine wp_cond_false (hF.at 0 rfl) ?_
    refine wp_seq ?_
    refine E.seq ?_
    by_cases hc9:r=1
    ·first
     |(exfalso;omega)
     |(refine E.opv hF (r_bin (hF.at 2 rfl) ev_c eg_scalar (bi_int (ic_eql (c:=true) (dec_tt hc9)) (by simp))) rfl rfl rfl rfl fun a hF=>?_
       refine E.opv hF (r_assign (hF.at 0 rfl)) rfl rfl rfl rfl fun a hF=>?_
       refine E.nil ?_
       refine wp_cond_true (hF.at 0 rfl) ?_
       refine wp_seq ?_
       refine E.seq ?_
       refine E.opv hF (r_move (hF.at 8 rfl)) rfl rfl rfl rfl fun a hF=>?_
       refine E.opv hF (r_load (hF.at 7 rfl) (ld_all ty_Plc (st.bk 1 rfl) rfl)) rfl rfl rfl rfl fun a hF=>?_
       refine S.ck st hF (rgc k54 (map2 (hF.at 1 rfl) (hF.at 0 rfl))) (rq_ret (reSunset_any n xa xb xc xd _ (hT.below st.bel) (by first|assumption|exact⟨by omega,by omega,by omega,by omega,by omega,by omega,by omega,by omega⟩) (by omega) (by omega)) (suns_lim (by first|assumption|exact⟨by omega,by omega,by omega,by omega,by omega,by omega,by omega,by omega⟩) (by omega) (by omega))) Rl.cl rfl fun vv11 w10 a st hF=>?_
       obtain⟨b13,ad13,n13,c13,ae13,m13,d13,rfl⟩:=Rq.form (st.f 0 rfl).1
       refine S.sto st hF 0 rfl (hF.at 8 rfl) (hF.at 0 rfl) ty_Rat rfl rfl rfl rfl fun w14 a st hF=>?_
       refine E.nil ?_
       refine wp_ret ?_
       refine S.ret Tryz.results16 st hF (hF.at 8 rfl) 0 rfl ty_Rat rfl hF.dfr ?_
       have bel:=st.bel
       exact⟨_,rfl,Rq.castM (st.f 0 rfl).1 (cri_1 hc9),bel⟩)
    ·first
     |(exfalso;omega)
     |(refine E.opv hF (r_bin (hF.at 2 rfl) ev_c eg_scalar (bi_int (ic_eql (c:=false) (dec_ff hc9)) (by simp))) rfl rfl rfl rfl fun a hF=>?_
       refine E.opv hF (r_assign (hF.at 0 rfl)) rfl rfl rfl rfl fun a hF=>?_
       refine E.nil ?_
       refine wp_cond_false (hF.at 0 rfl) ?_
       refine wp_seq ?_
       refine E.seq ?_
       by_cases hc15:r=2
       ·first
        |(exfalso;omega)
        |(refine E.opv hF (r_bin (hF.at 4 rfl) ev_c eg_scalar (bi_int (ic_eql (c:=true) (dec_tt hc15)) (by simp))) rfl rfl rfl rfl fun a hF=>?_
          refine E.opv hF (r_assign (hF.at 0 rfl)) rfl rfl rfl rfl fun a hF=>?_
          refine E.nil ?_
          refine wp_cond_true (hF.at 0 rfl) ?_
          refine wp_seq ?_
          refine E.rga 8 mixed hF [23,24,25,26,27,28,7,8] [_,_,_,_,_,_,kn w2 [.bool false,.slice none 0 0,.slice none 0 0],kn w2 [.bool false,.slice none 0 0,.slice none 0 0]] [6,7] ⟨fun _ _ ⟨g,e,_,o⟩=>⟨g,e,o.lt⟩,⟨fun _ _ ⟨g,e,_,o⟩=>⟨g,e,o.lt⟩,trivial⟩⟩ (by decide+kernel) rfl rfl rfl ⟨rm 10 rfl,rb st ty_Plc 8 1 rfl,ck st k53 rfl fun _ s=>rq_ret (reSunrise_any n xa xb xc xd _ (hT.below s.bel) (by first|assumption|exact⟨by omega,by omega,by omega,by omega,by omega,by omega,by omega,by omega⟩) (by omega) (by omega)) (sunr_lim (by first|assumption|exact⟨by omega,by omega,by omega,by omega,by omega,by omega,by omega,by omega⟩) (by omega) (by omega)),rm 10 rfl,rb st ty_Plc 8 1 rfl,ck st k54 rfl fun _ s=>rq_ret (reSunset_any n xa xb xc xd _ (hT.below s.bel) (by first|assumption|exact⟨by omega,by omega,by omega,by omega,by omega,by omega,by omega,by omega⟩) (by omega) (by omega)) (suns_lim (by first|assumption|exact⟨by omega,by omega,by omega,by omega,by omega,by omega,by omega,by omega⟩) (by omega) (by omega)),ra ty_Rat rfl rfl,ra ty_Rat rfl rfl,trivial⟩ ?_
          intro a w16 hF bb hall hne
          have s0:=st
          replace st:=st.to bb
          obtain⟨vv17,hF,st⟩:=rS hall hF st 2 rfl rfl Rl.cl
          obtain⟨b19,ad19,n19,c19,ae19,m19,d19,rfl⟩:=Rq.form (st.f 0 rfl).1
          obtain⟨vv20,hF,st⟩:=rS hall hF st 5 rfl rfl Rl.cl
          obtain⟨b22,ad22,n22,c22,ae22,m22,d22,rfl⟩:=Rq.form (st.f 0 rfl).1
          obtain⟨_,e7,g7,rfl,ge7,o7⟩:=sS hall 6 7 rfl rfl
          replace st:=st.push o7.blk (Nat.le_trans s0.bel.size ge7) (s0.ne ge7)
          clear o7
          replace hF:=hF.add e7
          obtain⟨_,e8,g8,rfl,ge8,o8⟩:=sS hall 7 8 rfl rfl
          replace st:=st.push o8.blk (Nat.le_trans s0.bel.size ge8) (ne_cons (fun(e:g7=g8)=>hne 6 7 7 8 rfl rfl (by decide) rfl rfl (by rw[e7,e8,e])) (s0.ne ge8))
          clear o8
          replace hF:=hF.add e8
          clear hall bb hne s0
          refine S.sto st hF 1 rfl (hF.at 1 rfl) (hF.at 3 rfl) ty_Rat rfl rfl rfl rfl fun w23 a st hF=>?_
          refine S.sto st hF 0 rfl (hF.at 0 rfl) (hF.at 2 rfl) ty_Rat rfl rfl rfl rfl fun w24 a st hF=>?_
          refine E.nil ?_
          refine wp_seq ?_
          refine E.rg 8 mixed hF [29,30,31,32,33,34,35,36] [_,_,_,_,_,_,_,_] (by decide+kernel) rfl rfl rfl ⟨rb st ty_Rat 1 1 rfl,rb st ty_Rat 0 0 rfl,rb st ty_Rat 1 1 rfl,ck st k57 rfl fun _ s=>qSub (s.f 0 rfl) (s.f 1 rfl),ck st k35 rfl fun _ s=>rq_ret (rOf2_any (3) (5) _ (by decide) (by decide) (by decide) (by decide)) (RLim.up (rlim_mk2 (limz_64 (by decide) (by decide)) (limz_64 (by decide) (by decide))) 2 (by decide)),ck st k58 rfl fun _ s _ x32 _ x33=>qMul x32 x33,ck st k56 rfl fun _ s _ x34=>qAdd (s.f 1 rfl) x34,ck st k55 rfl fun _ s _ x35=>rq_ret (reGrain_any _ ((grainV (dawV n xa xb xc xd))+(((grainV (dusV n xa xb xc xd))-(grainV (dawV n xa xb xc xd)))*(((3:Int):Rat)/((5:Int):Rat)))) 13 _ x35.1 x35.2 (by omega)) (grain_lim x35.2),trivial⟩ ?_
          intro a w25 hF bb hall
          replace st:=st.to bb
          obtain⟨vv26,hF,st⟩:=rS hall hF st 7 rfl rfl Rl.cl
          obtain⟨b28,ad28,n28,c28,ae28,m28,d28,rfl⟩:=Rq.form (st.f 0 rfl).1
          clear hall bb
          refine S.sto st hF 2 rfl (hF.at 12 rfl) (hF.at 0 rfl) ty_Rat rfl rfl rfl rfl fun w29 a st hF=>?_
          refine E.nil ?_
          refine wp_ret ?_
          refine S.ret Tryz.results16 st hF (hF.at 12 rfl) 2 rfl ty_Rat rfl hF.dfr ?_
          have bel:=st.bel
          exact⟨_,rfl,Rq.castM (st.f 0 rfl).1 (cri_2 hc15 (ml_is _ _)),bel⟩)
       ·first
        |(exfalso;omega)
        |(refine E.opv hF (r_bin (hF.at 4 rfl) ev_c eg_scalar (bi_int (ic_eql (c:=false) (dec_ff hc15)) (by simp))) rfl rfl rfl rfl fun a hF=>?_
          refine E.opv hF (r_assign (hF.at 0 rfl)) rfl rfl rfl rfl fun a hF=>?_
          refine E.nil ?_
          refine wp_cond_false (hF.at 0 rfl) ?_
          refine wp_skip ?_
          refine E.blk ?_
          refine E.norm ?_
          refine wp_seq ?_
          refine E.seq ?_
          refine E.opv hF (r_move (hF.at 10 rfl)) rfl rfl rfl rfl fun a hF=>?_
          refine E.opv hF (r_bin (hF.at 0 rfl) ev_c eg_scalar (ia_add (by omega) (by omega))) rfl rfl rfl rfl fun a hF=>?_
          refine S.ck st hF (rgc k40 (map1 (hF.at 0 rfl))) (rq_ret (rWhole_any (n+1) _ (by omega) (by omega)) (rlim_int (limz_64 (by omega) (by omega)) (by omega))) Rl.cl rfl fun vv31 w30 a st hF=>?_
          obtain⟨b33,ad33,n33,c33,ae33,m33,d33,rfl⟩:=Rq.form (st.f 0 rfl).1
          refine S.sto st hF 0 rfl (hF.at 10 rfl) (hF.at 0 rfl) ty_Rat rfl rfl rfl rfl fun w34 a st hF=>?_
          refine E.nil ?_
          refine wp_ret ?_
          refine S.ret Tryz.results16 st hF (hF.at 10 rfl) 0 rfl ty_Rat rfl hF.dfr ?_
          have bel:=st.bel
          exact⟨_,rfl,Rq.castM (st.f 0 rfl).1 (cri_3 hc3 hc9 hc15),bel⟩)))
theorem smallis18 (v:Value) (z n:Int) (w:World) (h:Wz w v z) (e:z=n) (b0: -9223372036854775808≤n) (b1:n≤9223372036854775807):Calls Tryz.prog 79 #[v] w (ValPost w (.tuple #[.int .i64 n,.bool true])):=by
 subst e
 have h':=small64 v z w h
 rw[sm64_t b0 b1,fit64_t b0 b1] at h'
 exact h'
theorem soCount_any (v1:Value) (qt:Rat) (k:Nat) (w:World) (hT:TabD w) (h1:Rq w v1 qt) (hl:RLim qt k) (hk:k≤100) (hk0: -1000000000000≤kaV qt) (hk1:kaV qt≤1000000000000):
 Calls Tryz.prog 20 #[v1] w (ValPost w (.int .i64 (kaV qt/12-1955880000))):=by
 have st:=St.start w
 refine E.enter (nt:=23) (L:=[(0,v1)]) Tryz.func20 rfl rfl rfl (args_cons (i:=0) rfl args_nil) ?_
 intro a hF
 refine wp_seq ?_
 refine E.seq ?_
 obtain⟨b2,ad2,n2,c2,ae2,m2,d2,rfl⟩:=Rq.form h1
 refine S.box st hF (hF.at 0 rfl) rfl rfl fun g1 w1 a st hF=>?_
 refine E.opv hF (r_assign ev_c) rfl rfl rfl rfl fun a hF=>?_
 refine E.nil ?_
 refine wp_seq ?_
 refine E.rga 6 mixed hF [6,7,8,9,10,3] [_,_,_,_,_,kn w1 [.bool false,.slice none 0 0,.slice none 0 0]] [5] ⟨fun _ _ ⟨g,e,_,o⟩=>⟨g,e,o.lt⟩,trivial⟩ (by decide+kernel) rfl rfl rfl ⟨rb st ty_Rat 1 0 rfl,ck st k40 rfl fun _ s=>rq_ret (rWhole_any ((-1132959)) _ (by decide) (by decide)) (rlim_int (limz_64 (by decide) (by decide)) (by omega)),ck st k57 rfl fun _ s _ x7=>qSub ⟨(h1.below s.bel),hl⟩ x7,ck st k76 rfl fun _ s=>qmYearM,ck st k75 rfl fun _ s _ x8 _ x9=>qDiv x8 x9,ra ty_Rat rfl rfl,trivial⟩ ?_
 intro a w3 hF bb hall hne
 have s0:=st
 replace st:=st.to bb
 obtain⟨vv4,hF,st⟩:=rS hall hF st 4 rfl rfl Rl.cl
 obtain⟨b6,ad6,n6,c6,ae6,m6,d6,rfl⟩:=Rq.form (st.f 0 rfl).1
 obtain⟨_,e3,g3,rfl,ge3,o3⟩:=sS hall 5 3 rfl rfl
 replace st:=st.push o3.blk (Nat.le_trans s0.bel.size ge3) (s0.ne ge3)
 clear o3
 replace hF:=hF.add e3
 clear hall bb hne s0
 refine S.sto st hF 0 rfl (hF.at 0 rfl) (hF.at 1 rfl) ty_Rat rfl rfl rfl rfl fun w7 a st hF=>?_
 refine E.nil ?_
 refine wp_seq ?_
 refine E.rg 13 mixed hF [12,13,14,15,16,17,18,19,11,20,21,4,5] [_,_,_,_,_,_,_,_,.ex (.tuple #[.int .i64 (kaV qt/12-1955880000),.bool true]),.ex (.int .i64 (kaV qt/12-1955880000)),.ex (.bool true),.ex (.int .i64 (kaV qt/12-1955880000)),.ex (.bool true)] (by decide+kernel) rfl rfl rfl ⟨rb st ty_Rat 0 0 rfl,rb st ty_Rat 3 1 rfl,ck st k78 rfl fun _ s=>qoSunO (hT.below s.bel) ⟨(h1.below s.bel),hl⟩,ck st k35 rfl fun _ s=>rq_ret (rOf2_any (1) (360) _ (by decide) (by decide) (by decide) (by decide)) (RLim.up (rlim_mk2 (limz_64 (by decide) (by decide)) (limz_64 (by decide) (by decide))) 2 (by decide)),ck st k58 rfl fun _ s _ x14 _ x15=>qMul x14 x15,ck st k57 rfl fun _ s _ x16=>qSub (s.f 0 rfl) x16,ck st k77 rfl fun _ s _ x17=>wc_ret (cRound_any _ ((((qt)-((((-1132959):Int):Rat)))/(pyr))-((sunV (qt))*(((1:Int):Rat)/((360:Int):Rat)))) (((k+2+1)+2)+((3*k+100)+2)+1) _ x17.1 x17.2 (by omega)) (round_lim x17.2),ck st k79 rfl fun _ s _ x18=>ex_ret (smallis18 _ (Rat.floor (((((qt)-((((-1132959):Int):Rat)))/(pyr))-((sunV (qt))*(((1:Int):Rat)/((360:Int):Rat))))+((1:Int):Rat)/((2:Int):Rat))) (kaV qt/12-1955880000) _ (Wc.wz x18.1) (cnt_is qt) (by omega) (by omega)),(by intro a' w' hF' hb hd;have e19:=sHe hd 0 19 rfl rfl rfl rfl;exact dv0 (r_move e19) rfl rfl rfl),(by intro a' w' hF' hb hd;have e11:=sHe hd 0 11 rfl rfl rfl rfl;exact dv0 (r_extract (v:= .int .i64 (kaV qt/12-1955880000)) e11 rfl) rfl rfl rfl),(by intro a' w' hF' hb hd;have e11:=sHe hd 0 11 rfl rfl rfl rfl;exact dv0 (r_extract (v:= .bool true) e11 rfl) rfl rfl rfl),(by intro a' w' hF' hb hd;have e20:=sHe hd 0 20 rfl rfl rfl rfl;exact dv0 (r_assign e20) rfl rfl rfl),(by intro a' w' hF' hb hd;have e21:=sHe hd 0 21 rfl rfl rfl rfl;exact dv0 (r_assign e21) rfl rfl rfl),trivial⟩ ?_
 intro a w8 hF bb hall
 replace st:=st.to bb
 replace hF:=rE hall hF 11 rfl rfl
 clear hall bb
 refine E.nil ?_
 refine wp_seq ?_
 refine E.seq ?_
 refine E.opv hF (r_move (hF.at 0 rfl)) rfl rfl rfl rfl fun a hF=>?_
 refine E.opset (L':=[(2,.int .i64 (kaV qt/12-1955880000)),(22,.int .i64 (kaV qt/12-1955880000)),(4,.int .i64 (kaV qt/12-1955880000)),(3,.pointer (some ⟨g3,0,none⟩)),(10,.agg #[.bool b6,.slice ad6 n6 c6,.slice ae6 m6 d6]),(1,.pointer (some ⟨g1,0,none⟩)),(0,.agg #[.bool b2,.slice ad2 n2 c2,.slice ae2 m2 d2])]) hF (r_assign (hF.at 0 rfl)) rfl rfl rfl rfl fun a hF=>?_
 refine E.nil ?_
 refine wp_ret ?_
 have bel:=st.bel
 refine bodyPost_ret (res_tmp Tryz.results20 (hF.at 0 rfl)) hF.dfr ?_
 exact⟨rfl,bel⟩
theorem soChk_any (r xa xb xc xd:Int) (w:World):
 Calls Tryz.prog 86 #[.int .i64 r,.agg #[.int .i64 xa,.int .i64 xb,.int .i64 xc,.int .i64 xd]] w (ValPost w (.int .i64 (ckE r xa xb xc xd))):=by
 have st:=St.start w
 refine E.enter (nt:=13) (L:=[(0,.int .i64 r),(1,.agg #[.int .i64 xa,.int .i64 xb,.int .i64 xc,.int .i64 xd])]) Tryz.func86 rfl rfl rfl (args_cons (i:=0) rfl (args_cons (i:=1) rfl args_nil)) ?_
 intro a hF
 refine wp_seq ?_
 refine E.seq ?_
 refine S.box st hF (hF.at 1 rfl) rfl rfl fun g3 w1 a st hF=>?_
 refine E.opv hF (r_assign ev_c) rfl rfl rfl rfl fun a hF=>?_
 refine E.nil ?_
 refine wp_seq ?_
 refine wp_seq ?_
 refine E.seq ?_
 refine E.opv hF (r_move (hF.at 2 rfl)) rfl rfl rfl rfl fun a hF=>?_
 by_cases hc2:r<0
 ·first
  |(exfalso;omega)
  |(refine E.opv hF (r_bin (hF.at 0 rfl) ev_c eg_scalar (bi_int (ic_lss (c:=true) (dec_tt hc2)) (by simp))) rfl rfl rfl rfl fun a hF=>?_
    refine E.opv hF (r_move (hF.at 0 rfl)) rfl rfl rfl rfl fun a hF=>?_
    refine E.unwanted hF (wanted_by rfl rfl (hF.at 0 rfl) rfl) rfl rfl rfl fun a hF=>?_
    refine E.unwanted hF (wanted_by rfl rfl (hF.at 1 rfl) rfl) rfl rfl rfl fun a hF=>?_
    refine E.opv hF (r_pick_t (hF.at 2 rfl) ev_c) rfl rfl rfl rfl fun a hF=>?_
    refine E.nil ?_
    refine wp_cond_true (hF.at 0 rfl) ?_
    refine wp_seq ?_
    refine E.seq ?_
    refine E.opset (L':=[(4,.int .i64 6),(10,.bool true),(9,undef),(8,undef),(7,.bool true),(6,.bool true),(5,.int .i64 r),(3,.pointer (some ⟨g3,0,none⟩)),(0,.int .i64 r),(1,.agg #[.int .i64 xa,.int .i64 xb,.int .i64 xc,.int .i64 xd])]) hF (r_assign ev_c) rfl rfl rfl rfl fun a hF=>?_
    refine E.nil ?_
    refine wp_ret ?_
    have bel:=st.bel
    refine bodyPost_ret (res_tmp Tryz.results86 (hF.at 0 rfl)) hF.dfr ?_
    refine⟨rv_int ?_,bel⟩
    unfold ckE
    rw[if_neg (by omega)])
 ·first
  |(exfalso;omega)
  |(refine E.opv hF (r_bin (hF.at 0 rfl) ev_c eg_scalar (bi_int (ic_lss (c:=false) (dec_ff hc2)) (by simp))) rfl rfl rfl rfl fun a hF=>?_
    refine E.opv hF (r_move (hF.at 0 rfl)) rfl rfl rfl rfl fun a hF=>?_
    refine E.opvg hF (r_move (hF.at 5 rfl)) (wanted_by rfl rfl (hF.at 0 rfl) rfl) rfl rfl rfl fun a hF=>?_
    by_cases hc3:4≤r
    ·first
     |(exfalso;omega)
     |(refine E.opvg hF (r_bin (hF.at 0 rfl) ev_c eg_scalar (bi_int (ic_geq (c:=true) (dec_tt hc3)) (by simp))) (wanted_by rfl rfl (hF.at 1 rfl) rfl) rfl rfl rfl fun a hF=>?_
       refine E.opv hF (r_pick_f (hF.at 2 rfl) (hF.at 0 rfl)) rfl rfl rfl rfl fun a hF=>?_
       refine E.nil ?_
       refine wp_cond_true (hF.at 0 rfl) ?_
       refine wp_seq ?_
       refine E.seq ?_
       refine E.opset (L':=[(4,.int .i64 6),(10,.bool true),(9,.bool true),(8,.int .i64 r),(7,.bool false),(6,.bool false),(5,.int .i64 r),(3,.pointer (some ⟨g3,0,none⟩)),(0,.int .i64 r),(1,.agg #[.int .i64 xa,.int .i64 xb,.int .i64 xc,.int .i64 xd])]) hF (r_assign ev_c) rfl rfl rfl rfl fun a hF=>?_
       refine E.nil ?_
       refine wp_ret ?_
       have bel:=st.bel
       refine bodyPost_ret (res_tmp Tryz.results86 (hF.at 0 rfl)) hF.dfr ?_
       refine⟨rv_int ?_,bel⟩
       unfold ckE
       rw[if_neg (by omega)])
    ·first
     |(exfalso;omega)
     |(refine E.opvg hF (r_bin (hF.at 0 rfl) ev_c eg_scalar (bi_int (ic_geq (c:=false) (dec_ff hc3)) (by simp))) (wanted_by rfl rfl (hF.at 1 rfl) rfl) rfl rfl rfl fun a hF=>?_
       refine E.opv hF (r_pick_f (hF.at 2 rfl) (hF.at 0 rfl)) rfl rfl rfl rfl fun a hF=>?_
       refine E.nil ?_
       refine wp_cond_false (hF.at 0 rfl) ?_
       refine wp_skip ?_
       refine E.norm ?_
       refine wp_seq ?_
       refine E.seq ?_
       refine E.opv hF (r_load (hF.at 7 rfl) (ld_all ty_Plc (st.bk 0 rfl) rfl)) rfl rfl rfl rfl fun a hF=>?_
       refine S.callx st hF (rgc k32 (map1 (hF.at 0 rfl))) (pCheck_any xa xb xc xd _) rfl rfl rfl rfl fun w4 a st hF=>?_
       refine E.opset (L':=[(4,.int .i64 (plE xa xb xc xd)),(12,.int .i64 (plE xa xb xc xd)),(11,.agg #[.int .i64 xa,.int .i64 xb,.int .i64 xc,.int .i64 xd]),(10,.bool false),(9,.bool false),(8,.int .i64 r),(7,.bool false),(6,.bool false),(5,.int .i64 r),(3,.pointer (some ⟨g3,0,none⟩)),(0,.int .i64 r),(1,.agg #[.int .i64 xa,.int .i64 xb,.int .i64 xc,.int .i64 xd])]) hF (r_assign (hF.at 0 rfl)) rfl rfl rfl rfl fun a hF=>?_
       refine E.nil ?_
       refine wp_ret ?_
       have bel:=st.bel
       refine bodyPost_ret (res_tmp Tryz.results86 (hF.at 0 rfl)) hF.dfr ?_
       refine⟨rv_int ?_,bel⟩
       unfold ckE
       rw[if_pos (by omega)]))
theorem soEnt_any (v1:Value) (qt:Rat) (k:Nat) (w:World) (hT:TabD w) (h1:Rq w v1 qt) (hl:RLim qt k) (hk:k≤100) (hk0: -1000000000000≤kaV qt) (hk1:kaV qt≤1000000000000):
 Calls Tryz.prog 92 #[v1] w (ValPost w (.int .i64 (kaV qt-23470560000))):=by
 have st:=St.start w
 refine E.enter (nt:=9) (L:=[(0,v1)]) Tryz.func92 rfl rfl rfl (args_cons (i:=0) rfl args_nil) ?_
 intro a hF
 refine wp_seq ?_
 refine E.seq ?_
 obtain⟨b2,ad2,n2,c2,ae2,m2,d2,rfl⟩:=Rq.form h1
 refine S.box st hF (hF.at 0 rfl) rfl rfl fun g1 w1 a st hF=>?_
 refine E.opv hF (r_assign ev_c) rfl rfl rfl rfl fun a hF=>?_
 refine E.nil ?_
 refine wp_seq ?_
 refine E.rg 6 mixed hF [3,4,5,6,7,8] [_,_,.ex (.int .i64 (12*(kaV (qt)/12-1955880000))),_,_,.ex (.int .i64 ((12*(kaV (qt)/12-1955880000))+(kaV (qt)%12)))] (by decide+kernel) rfl rfl rfl ⟨rb st ty_Rat 1 0 rfl,ck st k20 rfl fun _ s=>ex_ret (soCount_any _ (qt) k _ (hT.below s.bel) (h1.below s.bel) hl (by omega) (by omega) (by omega)),(by intro a' w' hF' hb hd;have e4:=sHe hd 0 4 rfl rfl rfl rfl;exact dv0 (r_bin ev_c e4 eg_scalar (ia_mul (by omega) (by omega))) rfl rfl rfl),rb st ty_Rat 1 0 rfl,ck st k31 rfl fun _ s=>ex_ret (soSign12_any _ (qt) k _ (hT.below s.bel) (h1.below s.bel) hl (by omega)),(by intro a' w' hF' hb hd;have e5:=sHe hd 0 5 rfl rfl rfl rfl;have e7:=sHe hd 1 7 rfl rfl rfl rfl;exact dv0 (r_bin e5 e7 eg_scalar (ia_add (by omega) (by omega))) rfl rfl rfl),trivial⟩ ?_
 intro a w3 hF bb hall
 replace st:=st.to bb
 replace hF:=rE hall hF 5 rfl rfl
 clear hall bb
 refine E.opset (L':=[(2,.int .i64 ((12*(kaV (qt)/12-1955880000))+(kaV (qt)%12))),(8,.int .i64 ((12*(kaV (qt)/12-1955880000))+(kaV (qt)%12))),(1,.pointer (some ⟨g1,0,none⟩)),(0,.agg #[.bool b2,.slice ad2 n2 c2,.slice ae2 m2 d2])]) hF (r_assign (hF.at 0 rfl)) rfl rfl rfl rfl fun a hF=>?_
 refine E.nil ?_
 refine wp_ret ?_
 have bel:=st.bel
 refine bodyPost_ret (res_tmp Tryz.results92 (hF.at 0 rfl)) hF.dfr ?_
 refine⟨rv_int ?_,bel⟩
 omega
theorem soIn_any (n:Int) (w:World) (hn0: -3000000≤n) (hn1:n≤3000000):
 Calls Tryz.prog 87 #[.int .i64 n] w (ValPost w (.bool true)):=by
 have st:=St.start w
 refine E.enter (nt:=9) (L:=[(0,.int .i64 n)]) Tryz.func87 rfl rfl rfl (args_cons (i:=0) rfl args_nil) ?_
 intro a hF
 refine wp_seq ?_
 refine E.seq ?_
 refine E.opv hF (r_assign ev_c) rfl rfl rfl rfl fun a hF=>?_
 refine E.nil ?_
 refine wp_seq ?_
 refine E.seq ?_
 refine E.opv hF (r_move (hF.at 1 rfl)) rfl rfl rfl rfl fun a hF=>?_
 by_cases hc1:(-3000000)≤n
 ·first
  |(exfalso;omega)
  |(refine E.opv hF (r_bin (hF.at 0 rfl) ev_c eg_scalar (bi_int (ic_geq (c:=true) (dec_tt hc1)) (by simp))) rfl rfl rfl rfl fun a hF=>?_
    refine E.opv hF (r_move (hF.at 0 rfl)) rfl rfl rfl rfl fun a hF=>?_
    refine E.opvg hF (r_move (hF.at 4 rfl)) (wanted_by rfl rfl (hF.at 0 rfl) rfl) rfl rfl rfl fun a hF=>?_
    by_cases hc2:n≤3000000
    ·first
     |(exfalso;omega)
     |(refine E.opvg hF (r_bin (hF.at 0 rfl) ev_c eg_scalar (bi_int (ic_leq (c:=true) (dec_tt hc2)) (by simp))) (wanted_by rfl rfl (hF.at 1 rfl) rfl) rfl rfl rfl fun a hF=>?_
       refine E.opv hF (r_pick_t (hF.at 2 rfl) (hF.at 0 rfl)) rfl rfl rfl rfl fun a hF=>?_
       refine E.opset (L':=[(2,.bool true),(8,.bool true),(7,.bool true),(6,.int .i64 n),(5,.bool true),(4,.bool true),(3,.int .i64 n),(0,.int .i64 n)]) hF (r_assign (hF.at 0 rfl)) rfl rfl rfl rfl fun a hF=>?_
       refine E.nil ?_
       refine wp_ret ?_
       have bel:=st.bel
       refine bodyPost_ret (res_tmp Tryz.results87 (hF.at 0 rfl)) hF.dfr ?_
       exact⟨rfl,bel⟩)
    ·first
     |(exfalso;omega)
     |(refine E.opvg hF (r_bin (hF.at 0 rfl) ev_c eg_scalar (bi_int (ic_leq (c:=false) (dec_ff hc2)) (by simp))) (wanted_by rfl rfl (hF.at 1 rfl) rfl) rfl rfl rfl fun a hF=>?_
       refine E.opv hF (r_pick_t (hF.at 2 rfl) (hF.at 0 rfl)) rfl rfl rfl rfl fun a hF=>?_
       refine E.opset (L':=[(2,.bool false),(8,.bool false),(7,.bool false),(6,.int .i64 n),(5,.bool true),(4,.bool true),(3,.int .i64 n),(0,.int .i64 n)]) hF (r_assign (hF.at 0 rfl)) rfl rfl rfl rfl fun a hF=>?_
       refine E.nil ?_
       refine wp_ret ?_
       have bel:=st.bel
       refine bodyPost_ret (res_tmp Tryz.results87 (hF.at 0 rfl)) hF.dfr ?_
       exfalso;omega))
 ·first
  |(exfalso;omega)
  |(refine E.opv hF (r_bin (hF.at 0 rfl) ev_c eg_scalar (bi_int (ic_geq (c:=false) (dec_ff hc1)) (by simp))) rfl rfl rfl rfl fun a hF=>?_
    refine E.opv hF (r_move (hF.at 0 rfl)) rfl rfl rfl rfl fun a hF=>?_
    refine E.unwanted hF (wanted_by rfl rfl (hF.at 0 rfl) rfl) rfl rfl rfl fun a hF=>?_
    refine E.unwanted hF (wanted_by rfl rfl (hF.at 1 rfl) rfl) rfl rfl rfl fun a hF=>?_
    refine E.opv hF (r_pick_f (hF.at 2 rfl) ev_c) rfl rfl rfl rfl fun a hF=>?_
    refine E.opset (L':=[(2,.bool false),(8,.bool false),(7,undef),(6,undef),(5,.bool false),(4,.bool false),(3,.int .i64 n),(0,.int .i64 n)]) hF (r_assign (hF.at 0 rfl)) rfl rfl rfl rfl fun a hF=>?_
    refine E.nil ?_
    refine wp_ret ?_
    have bel:=st.bel
    refine bodyPost_ret (res_tmp Tryz.results87 (hF.at 0 rfl)) hF.dfr ?_
    exfalso;omega)
theorem soInX_any (n:Int) (w:World) (hx:¬(-3000000≤n∧n≤3000000)):
 Calls Tryz.prog 87 #[.int .i64 n] w (ValPost w (.bool false)):=by
 have st:=St.start w
 refine E.enter (nt:=9) (L:=[(0,.int .i64 n)]) Tryz.func87 rfl rfl rfl (args_cons (i:=0) rfl args_nil) ?_
 intro a hF
 refine wp_seq ?_
 refine E.seq ?_
 refine E.opv hF (r_assign ev_c) rfl rfl rfl rfl fun a hF=>?_
 refine E.nil ?_
 refine wp_seq ?_
 refine E.seq ?_
 refine E.opv hF (r_move (hF.at 1 rfl)) rfl rfl rfl rfl fun a hF=>?_
 by_cases hc1:(-3000000)≤n
 ·first
  |(exfalso;omega)
  |(refine E.opv hF (r_bin (hF.at 0 rfl) ev_c eg_scalar (bi_int (ic_geq (c:=true) (dec_tt hc1)) (by simp))) rfl rfl rfl rfl fun a hF=>?_
    refine E.opv hF (r_move (hF.at 0 rfl)) rfl rfl rfl rfl fun a hF=>?_
    refine E.opvg hF (r_move (hF.at 4 rfl)) (wanted_by rfl rfl (hF.at 0 rfl) rfl) rfl rfl rfl fun a hF=>?_
    by_cases hc2:n≤3000000
    ·first
     |(exfalso;omega)
     |(refine E.opvg hF (r_bin (hF.at 0 rfl) ev_c eg_scalar (bi_int (ic_leq (c:=true) (dec_tt hc2)) (by simp))) (wanted_by rfl rfl (hF.at 1 rfl) rfl) rfl rfl rfl fun a hF=>?_
       refine E.opv hF (r_pick_t (hF.at 2 rfl) (hF.at 0 rfl)) rfl rfl rfl rfl fun a hF=>?_
       refine E.opset (L':=[(2,.bool true),(8,.bool true),(7,.bool true),(6,.int .i64 n),(5,.bool true),(4,.bool true),(3,.int .i64 n),(0,.int .i64 n)]) hF (r_assign (hF.at 0 rfl)) rfl rfl rfl rfl fun a hF=>?_
       refine E.nil ?_
       refine wp_ret ?_
       have bel:=st.bel
       refine bodyPost_ret (res_tmp Tryz.results87 (hF.at 0 rfl)) hF.dfr ?_
       exfalso;omega)
    ·first
     |(exfalso;omega)
     |(refine E.opvg hF (r_bin (hF.at 0 rfl) ev_c eg_scalar (bi_int (ic_leq (c:=false) (dec_ff hc2)) (by simp))) (wanted_by rfl rfl (hF.at 1 rfl) rfl) rfl rfl rfl fun a hF=>?_
       refine E.opv hF (r_pick_t (hF.at 2 rfl) (hF.at 0 rfl)) rfl rfl rfl rfl fun a hF=>?_
       refine E.opset (L':=[(2,.bool false),(8,.bool false),(7,.bool false),(6,.int .i64 n),(5,.bool true),(4,.bool true),(3,.int .i64 n),(0,.int .i64 n)]) hF (r_assign (hF.at 0 rfl)) rfl rfl rfl rfl fun a hF=>?_
       refine E.nil ?_
       refine wp_ret ?_
       have bel:=st.bel
       refine bodyPost_ret (res_tmp Tryz.results87 (hF.at 0 rfl)) hF.dfr ?_
       exact⟨rfl,bel⟩))
 ·first
  |(exfalso;omega)
  |(refine E.opv hF (r_bin (hF.at 0 rfl) ev_c eg_scalar (bi_int (ic_geq (c:=false) (dec_ff hc1)) (by simp))) rfl rfl rfl rfl fun a hF=>?_
    refine E.opv hF (r_move (hF.at 0 rfl)) rfl rfl rfl rfl fun a hF=>?_
    refine E.unwanted hF (wanted_by rfl rfl (hF.at 0 rfl) rfl) rfl rfl rfl fun a hF=>?_
    refine E.unwanted hF (wanted_by rfl rfl (hF.at 1 rfl) rfl) rfl rfl rfl fun a hF=>?_
    refine E.opv hF (r_pick_f (hF.at 2 rfl) ev_c) rfl rfl rfl rfl fun a hF=>?_
    refine E.opset (L':=[(2,.bool false),(8,.bool false),(7,undef),(6,undef),(5,.bool false),(4,.bool false),(3,.int .i64 n),(0,.int .i64 n)]) hF (r_assign (hF.at 0 rfl)) rfl rfl rfl rfl fun a hF=>?_
    refine E.nil ?_
    refine wp_ret ?_
    have bel:=st.bel
    refine bodyPost_ret (res_tmp Tryz.results87 (hF.at 0 rfl)) hF.dfr ?_
    exact⟨rfl,bel⟩)
theorem soAsk_any (r bg sg xa xb xc xd h:Int) (g0 g1 g2 g3:Nat) (w:World) (hT:TabD w) (hok:PlOk xa xb xc xd) (hb0: -3890000≤bg) (hb1:bg≤3890000) (hh0:0≤h) (hh1:h<15) (h0:Blk w g0 [.int .i64 r]) (h1:Blk w g1 [.int .i64 bg]) (h2:Blk w g2 [.int .i64 xa,.int .i64 xb,.int .i64 xc,.int .i64 xd]) (h3:Blk w g3 [.int .i64 sg]):
 Calls Tryz.prog 91 #[.int .i64 h,.pointer (some ⟨g0,0,none⟩),.pointer (some ⟨g1,0,none⟩),.pointer (some ⟨g2,0,none⟩),.pointer (some ⟨g3,0,none⟩)] w (ValPost w (.bool (decide (sg≤kaV (criQ r (bg+h) xa xb xc xd)-23470560000)))):=by
 have hkc:=kc_bd r (n:=bg+h) hok (by omega) (by omega)
 have st:=St.start w
 refine E.enter (nt:=16) (L:=[(0,.int .i64 h),(1,.pointer (some ⟨g0,0,none⟩)),(2,.pointer (some ⟨g1,0,none⟩)),(3,.pointer (some ⟨g2,0,none⟩)),(4,.pointer (some ⟨g3,0,none⟩))]) Tryz.func91 rfl rfl rfl (args_cons (i:=0) rfl (args_cons (i:=1) rfl (args_cons (i:=2) rfl (args_cons (i:=3) rfl (args_cons (i:=4) rfl args_nil))))) ?_
 intro a hF
 refine wp_seq ?_
 refine E.seq ?_
 refine E.opv hF (r_assign ev_c) rfl rfl rfl rfl fun a hF=>?_
 refine E.nil ?_
 refine wp_seq ?_
 refine E.rg 9 mixed hF [7,8,9,10,11,12,13,14,15] [_,_,_,.ex (.int .i64 (bg+h)),_,_,_,_,.ex (.bool (decide (sg≤kaV (criQ r (bg+h) xa xb xc xd)-23470560000)))] (by decide+kernel) rfl rfl rfl ⟨rd rfl rfl fun a' w' hF' hb=>(r_load (hF'.at 2 rfl) (ldb_int (v:= .int .i64 r) (h0.below (below_to st.bel hb)) rfl)),rd rfl rfl fun a' w' hF' hb=>(r_load (hF'.at 3 rfl) (ldb_i64 (v:= .int .i64 bg) (h1.below (below_to st.bel hb)) rfl)),rm 1 rfl,(by intro a' w' hF' hb hd;have e8:=sHe hd 0 8 rfl rfl rfl rfl;have e9:=sHe hd 1 9 rfl rfl rfl rfl;exact dv0 (r_bin e8 e9 eg_scalar (ia_add (by omega) (by omega))) rfl rfl rfl),rd rfl rfl fun a' w' hF' hb=>(r_load (hF'.at 4 rfl) (ldb_Plc (vs:=[.int .i64 xa,.int .i64 xb,.int .i64 xc,.int .i64 xd]) (h2.below (below_to st.bel hb)) rfl rfl)),ck st k16 rfl fun _ s=>rq_ret (soCrit_any r (bg+h) xa xb xc xd _ (hT.below s.bel) (by first|assumption|exact⟨by omega,by omega,by omega,by omega,by omega,by omega,by omega,by omega⟩) (by omega) (by omega)) (criQ_lim (by first|assumption|exact⟨by omega,by omega,by omega,by omega,by omega,by omega,by omega,by omega⟩) (by omega) (by omega)),ck st k92 rfl fun _ s _ x12=>ex_ret (soEnt_any _ (criQ r (bg+h) xa xb xc xd) 3 _ (hT.below s.bel) x12.1 x12.2 (by omega) (by omega) (by omega)),rd rfl rfl fun a' w' hF' hb=>(r_load (hF'.at 5 rfl) (ldb_i64 (v:= .int .i64 sg) (h3.below (below_to st.bel hb)) rfl)),(by intro a' w' hF' hb hd;have e13:=sHe hd 0 13 rfl rfl rfl rfl;have e14:=sHe hd 1 14 rfl rfl rfl rfl;exact dv0 (r_bin e13 e14 eg_scalar (bi_int (ic_geq (c:=decide (sg≤kaV (criQ r (bg+h) xa xb xc xd)-23470560000)) rfl) (by simp))) rfl rfl rfl),trivial⟩ ?_
 intro a w1 hF bb hall
 replace st:=st.to bb
 replace hF:=rE hall hF 8 rfl rfl
 clear hall bb
 refine E.opset (L':=[(6,.bool (decide (sg≤kaV (criQ r (bg+h) xa xb xc xd)-23470560000))),(15,.bool (decide (sg≤kaV (criQ r (bg+h) xa xb xc xd)-23470560000))),(0,.int .i64 h),(1,.pointer (some ⟨g0,0,none⟩)),(2,.pointer (some ⟨g1,0,none⟩)),(3,.pointer (some ⟨g2,0,none⟩)),(4,.pointer (some ⟨g3,0,none⟩))]) hF (r_assign (hF.at 0 rfl)) rfl rfl rfl rfl fun a hF=>?_
 refine E.nil ?_
 refine wp_ret ?_
 have bel:=st.bel
 refine bodyPost_ret (res_tmp Tryz.results91 (hF.at 0 rfl)) hF.dfr ?_
 exact⟨rfl,bel⟩
theorem ask_first (r bg sg xa xb xc xd:Int) (g0 g1 g2 g3:Nat) (w:World) (hT:TabD w) (hok:PlOk xa xb xc xd) (hb0: -3890000≤bg) (hb1:bg≤3890000) (h0:Blk w g0 [.int .i64 r]) (h1:Blk w g1 [.int .i64 bg]) (h2:Blk w g2 [.int .i64 xa,.int .i64 xb,.int .i64 xc,.int .i64 xd]) (h3:Blk w g3 [.int .i64 sg]):AskI w 91 #[.pointer (some ⟨g0,0,none⟩),.pointer (some ⟨g1,0,none⟩),.pointer (some ⟨g2,0,none⟩),.pointer (some ⟨g3,0,none⟩)] 15 (fun h=>decide (sg≤kaV (criQ r (bg+h) xa xb xc xd)-23470560000)):=
 ⟨⟨_,Tryz.func91,en91.1,en91.2⟩,fun h w' hb a b=>soAsk_any r bg sg xa xb xc xd h g0 g1 g2 g3 w' (hT.below hb) hok hb0 hb1 a b (h0.below hb) (h1.below hb) (h2.below hb) (h3.below hb)⟩
theorem daysE_any (v1:Value) (qt:Rat) (k:Nat) (n:Int) (w:World) (h1:Rq w v1 qt) (hl:RLim qt k) (hk:k≤10000) (e:qt.floor=n) (h0: -9223372036854775808≤n) (h3:n≤9223372036854775807):Calls Tryz.prog 89 #[v1] w (ValPost w (.tuple #[.int .i64 n,.bool true])):=by
 subst e
 have h:=cDays_any v1 _ k w h1 hl hk
 rwa[sm64_t h0 h3,fit64_t h0 h3] at h
theorem soFirst_any (r y m:Int) (xa xb xc xd:Int) (w:World) (hT:TabD w) (hok:PlOk xa xb xc xd) (hy0: -20000≤y) (hy1:y≤20000) (hm0:1≤m) (hm1:m≤12) (hf0: -3800000≤foD (criF r xa xb xc xd) y m) (hf1:foD (criF r xa xb xc xd) y m≤3800000):
 Calls Tryz.prog 29 #[.int .i64 r,.int .i64 y,.int .i64 m,.agg #[.int .i64 xa,.int .i64 xb,.int .i64 xc,.int .i64 xd]] w (ValPost w (.int .i64 (foD (criF r xa xb xc xd) y m))):=by
 have hfo:=fo_ent (cf_ok r hok) (cf_near r hok) y m
 obtain⟨fe,hfe⟩:∃z:Int,(entT (12*(y+3179)+(m-1))).floor =z:=⟨_,rfl⟩
 rw[hfe] at hfo
 have st:=St.start w
 refine E.enter (nt:=39) (L:=[(0,.int .i64 r),(1,.int .i64 y),(2,.int .i64 m),(3,.agg #[.int .i64 xa,.int .i64 xb,.int .i64 xc,.int .i64 xd])]) Tryz.func29 rfl rfl rfl (args_cons (i:=0) rfl (args_cons (i:=1) rfl (args_cons (i:=2) rfl (args_cons (i:=3) rfl args_nil)))) ?_
 intro a hF
 refine wp_seq ?_
 refine E.seq ?_
 refine S.boxI st hF (hF.at 0 rfl) rfl rfl fun g4 w1 a st hF=>?_
 refine S.box st hF (hF.at 4 rfl) rfl rfl fun g7 w2 a st hF=>?_
 refine E.opv hF (r_assign ev_c) rfl rfl rfl rfl fun a hF=>?_
 refine E.nil ?_
 refine wp_seq ?_
 refine E.seq ?_
 refine E.opv hF (r_move (hF.at 4 rfl)) rfl rfl rfl rfl fun a hF=>?_
 refine E.opv hF (r_bin (hF.at 0 rfl) ev_c eg_scalar (ia_add (by omega) (by omega))) rfl rfl rfl rfl fun a hF=>?_
 refine E.opv hF (r_bin ev_c (hF.at 0 rfl) eg_scalar (ia_mul (by omega) (by omega))) rfl rfl rfl rfl fun a hF=>?_
 refine E.opv hF (r_move (hF.at 8 rfl)) rfl rfl rfl rfl fun a hF=>?_
 refine E.opv hF (r_bin (hF.at 0 rfl) ev_c eg_scalar (ia_sub (by omega) (by omega))) rfl rfl rfl rfl fun a hF=>?_
 refine E.opv hF (r_bin (hF.at 2 rfl) (hF.at 0 rfl) eg_scalar (ia_add (by omega) (by omega))) rfl rfl rfl rfl fun a hF=>?_
 refine S.newI st hF 0 rfl sz_i64 ze_i64 rfl rfl fun g9 w3 a st hF=>?_
 refine E.nil ?_
 refine wp_seq ?_
 refine E.rga 5 mixed hF [21,22,23,24,10] [_,_,_,_,kn w3 [.bool false,.slice none 0 0,.slice none 0 0]] [4] ⟨fun _ _ ⟨g,e,_,o⟩=>⟨g,e,o.lt⟩,trivial⟩ (by decide+kernel) rfl rfl rfl ⟨ck st k76 rfl fun _ s=>qmYearM,rd rfl rfl fun a' w' hF' hb=>(r_load (hF'.at 0 rfl) (ldb_i64 (v:= .int .i64 ((12*(y+3179))+(m-1))) ((st.bk 0 rfl).below hb) rfl)),ck st k35 rfl fun _ s=>rq_ret (rOf2_any ((12*(y+3179))+(m-1)) (12) _ (by omega) (by omega) (by decide) (by decide)) (RLim.up (rlim_mk2 (limz_64 (by omega) (by omega)) (limz_64 (by decide) (by decide))) 2 (by decide)),ck st k58 rfl fun _ s _ x21 _ x23=>qMul x21 x23,ra ty_Rat rfl rfl,trivial⟩ ?_
 intro a w4 hF bb hall hne
 have s0:=st
 replace st:=st.to bb
 obtain⟨vv5,hF,st⟩:=rS hall hF st 3 rfl rfl Rl.cl
 obtain⟨b7,ad7,n7,c7,ae7,m7,d7,rfl⟩:=Rq.form (st.f 0 rfl).1
 obtain⟨_,e10,g10,rfl,ge10,o10⟩:=sS hall 4 10 rfl rfl
 replace st:=st.push o10.blk (Nat.le_trans s0.bel.size ge10) (s0.ne ge10)
 clear o10
 replace hF:=hF.add e10
 clear hall bb hne s0
 refine S.sto st hF 0 rfl (hF.at 0 rfl) (hF.at 1 rfl) ty_Rat rfl rfl rfl rfl fun w8 a st hF=>?_
 refine E.nil ?_
 refine wp_seq ?_
 refine E.rg 9 mixed hF [26,27,28,29,25,30,31,11,12] [_,_,_,_,.ex (.tuple #[.int .i64 fe,.bool true]),.ex (.int .i64 fe),.ex (.bool true),.ex (.int .i64 fe),.ex (.bool true)] (by decide+kernel) rfl rfl rfl ⟨rb st ty_Rat 0 0 rfl,ck st k40 rfl fun _ s=>rq_ret (rWhole_any ((-1132959)) _ (by decide) (by decide)) (rlim_int (limz_64 (by decide) (by decide)) (by omega)),ck st k56 rfl fun _ s _ x27=>qAdd (s.f 0 rfl) x27,ck st k89 rfl fun _ s _ x28=>ex_ret (daysE_any _ (((pyr)*((((12*(y+3179))+(m-1):Int):Rat)/((12:Int):Rat)))+((((-1132959):Int):Rat))) 7 fe _ x28.1 x28.2 (by omega) hfe (by omega) (by omega)),(by intro a' w' hF' hb hd;have e29:=sHe hd 0 29 rfl rfl rfl rfl;exact dv0 (r_move e29) rfl rfl rfl),(by intro a' w' hF' hb hd;have e25:=sHe hd 0 25 rfl rfl rfl rfl;exact dv0 (r_extract (v:= .int .i64 fe) e25 rfl) rfl rfl rfl),(by intro a' w' hF' hb hd;have e25:=sHe hd 0 25 rfl rfl rfl rfl;exact dv0 (r_extract (v:= .bool true) e25 rfl) rfl rfl rfl),(by intro a' w' hF' hb hd;have e30:=sHe hd 0 30 rfl rfl rfl rfl;exact dv0 (r_assign e30) rfl rfl rfl),(by intro a' w' hF' hb hd;have e31:=sHe hd 0 31 rfl rfl rfl rfl;exact dv0 (r_assign e31) rfl rfl rfl),trivial⟩ ?_
 intro a w9 hF bb hall
 replace st:=st.to bb
 replace hF:=rE hall hF 7 rfl rfl
 clear hall bb
 refine E.nil ?_
 refine wp_seq ?_
 refine E.seq ?_
 refine E.opv hF (r_move (hF.at 0 rfl)) rfl rfl rfl rfl fun a hF=>?_
 refine E.opv hF (r_bin (hF.at 0 rfl) ev_c eg_scalar (ia_sub (by omega) (by omega))) rfl rfl rfl rfl fun a hF=>?_
 refine S.newI st hF 0 rfl sz_i64 ze_i64 rfl rfl fun g13 w10 a st hF=>?_
 refine E.nil ?_
 refine wp_seq ?_
 refine E.seq ?_
 refine E.opv hF (r_makeFunc map0 (map4s (hF.at 15 rfl) (hF.at 0 rfl) (hF.at 14 rfl) (hF.at 6 rfl))) rfl rfl rfl rfl fun a hF=>?_
 refine S.callx st hF (rgc k90 (map2 ev_c (hF.at 0 rfl))) (search_any 15 (foD (criF r xa xb xc xd) y m-(fe-7)) _ _ (fun h=>decide ((12*(y+3179))+(m-1)≤kaV (criQ r (fe-7+h) xa xb xc xd)-23470560000)) _ (by omega) (by omega) (by omega) (fun h _ _=>fo_ask (by first|assumption|exact⟨by omega,by omega,by omega,by omega,by omega,by omega,by omega,by omega⟩) h) (ask_first r (fe-7) ((12*(y+3179))+(m-1)) xa xb xc xd _ _ _ _ _ (hT.below st.bel) (by first|assumption|exact⟨by omega,by omega,by omega,by omega,by omega,by omega,by omega,by omega⟩) (by omega) (by omega) (st.bk 4 rfl) (st.bk 0 rfl) (st.bk 3 rfl) (st.bk 2 rfl))) rfl rfl rfl rfl fun w11 a st hF=>?_
 refine E.opv hF (r_assign (hF.at 0 rfl)) rfl rfl rfl rfl fun a hF=>?_
 refine E.nil ?_
 refine wp_seq ?_
 refine E.seq ?_
 refine E.opv hF (r_load (hF.at 3 rfl) (ldb_i64 (v:= .int .i64 (fe-7)) (st.bk 0 rfl) rfl)) rfl rfl rfl rfl fun a hF=>?_
 refine E.opv hF (r_move (hF.at 1 rfl)) rfl rfl rfl rfl fun a hF=>?_
 refine E.opv hF (r_bin (hF.at 1 rfl) (hF.at 0 rfl) eg_scalar (ia_add (by omega) (by omega))) rfl rfl rfl rfl fun a hF=>?_
 refine E.opset (L':=[(8,.int .i64 ((fe-7)+(foD (criF r xa xb xc xd) y m-(fe-7)))),(38,.int .i64 ((fe-7)+(foD (criF r xa xb xc xd) y m-(fe-7)))),(37,.int .i64 (foD (criF r xa xb xc xd) y m-(fe-7))),(36,.int .i64 (fe-7)),(14,.int .i64 (foD (criF r xa xb xc xd) y m-(fe-7))),(35,.int .i64 (foD (criF r xa xb xc xd) y m-(fe-7))),(34,.func (.func 91) #[] #[.pointer (some ⟨g4,0,none⟩),.pointer (some ⟨g13,0,none⟩),.pointer (some ⟨g7,0,none⟩),.pointer (some ⟨g9,0,none⟩)]),(13,.pointer (some ⟨g13,0,none⟩)),(33,.int .i64 (fe-7)),(32,.int .i64 fe),(11,.int .i64 fe),(10,.pointer (some ⟨g10,0,none⟩)),(24,.agg #[.bool b7,.slice ad7 n7 c7,.slice ae7 m7 d7]),(9,.pointer (some ⟨g9,0,none⟩)),(20,.int .i64 ((12*(y+3179))+(m-1))),(19,.int .i64 (m-1)),(18,.int .i64 m),(17,.int .i64 (12*(y+3179))),(16,.int .i64 (y+3179)),(15,.int .i64 y),(7,.pointer (some ⟨g7,0,none⟩)),(4,.pointer (some ⟨g4,0,none⟩)),(0,.int .i64 r),(1,.int .i64 y),(2,.int .i64 m),(3,.agg #[.int .i64 xa,.int .i64 xb,.int .i64 xc,.int .i64 xd])]) hF (r_assign (hF.at 0 rfl)) rfl rfl rfl rfl fun a hF=>?_
 refine E.nil ?_
 refine wp_ret ?_
 have bel:=st.bel
 refine bodyPost_ret (res_tmp Tryz.results29 (hF.at 0 rfl)) hF.dfr ?_
 refine⟨rv_int ?_,bel⟩
 omega
theorem soOfE_any (r n xa xb xc xd:Int) (w:World) (hE:ckE r xa xb xc xd≠0):
 Calls Tryz.prog 24 #[.int .i64 r,.int .i64 n,.agg #[.int .i64 xa,.int .i64 xb,.int .i64 xc,.int .i64 xd]] w (ValPost w (.tuple #[.agg #[.int .i64 0,.int .i64 0,.int .i64 0],.int .i64 (ckE r xa xb xc xd)])):=by
 have st:=St.start w
 refine E.enter (nt:=46) (L:=[(0,.int .i64 r),(1,.int .i64 n),(2,.agg #[.int .i64 xa,.int .i64 xb,.int .i64 xc,.int .i64 xd])]) Tryz.func24 rfl rfl rfl (args_cons (i:=0) rfl (args_cons (i:=1) rfl (args_cons (i:=2) rfl args_nil))) ?_
 intro a hF
 refine wp_seq ?_
 refine E.seq ?_
 refine S.box st hF (hF.at 2 rfl) rfl rfl fun g5 w1 a st hF=>?_
 refine S.alloc st hF ty_SOD rfl rfl fun g6 w2 a st hF=>?_
 refine E.opv hF (r_assign ev_c) rfl rfl rfl rfl fun a hF=>?_
 refine E.nil ?_
 refine wp_seq ?_
 refine wp_seq ?_
 refine E.seq ?_
 refine E.opv hF (r_move (hF.at 3 rfl)) rfl rfl rfl rfl fun a hF=>?_
 refine E.opv hF (r_load (hF.at 3 rfl) (ld_all ty_Plc (st.bk 1 rfl) rfl)) rfl rfl rfl rfl fun a hF=>?_
 refine S.callx st hF (rgc k86 (map2 (hF.at 1 rfl) (hF.at 0 rfl))) (soChk_any r xa xb xc xd _) rfl rfl rfl rfl fun w3 a st hF=>?_
 refine E.opv hF (r_assign (hF.at 0 rfl)) rfl rfl rfl rfl fun a hF=>?_
 refine E.nil ?_
 refine wp_seq ?_
 refine E.seq ?_
 refine E.opv hF (r_move (hF.at 0 rfl)) rfl rfl rfl rfl fun a hF=>?_
 refine E.opv hF (r_bin (hF.at 0 rfl) ev_c eg_scalar (bi_int (ic_neq (c:=true) (dec_tt (by omega))) (by simp))) rfl rfl rfl rfl fun a hF=>?_
 refine E.nil ?_
 refine wp_cond_true (hF.at 0 rfl) ?_
 refine wp_seq ?_
 refine E.seq ?_
 refine E.opv hF (r_build (by simp) (bd_SOD_ _)) rfl rfl rfl rfl fun a hF=>?_
 refine E.opv hF (r_move (hF.at 3 rfl)) rfl rfl rfl rfl fun a hF=>?_
 refine S.stoI st hF 0 rfl (hF.at 9 rfl) (hF.at 1 rfl) ty_SOD rfl rfl rfl fun w4 a st hF=>?_
 refine E.opset (L':=[(7,.int .i64 (ckE r xa xb xc xd)),(19,.int .i64 (ckE r xa xb xc xd)),(18,.agg #[.int .i64 0,.int .i64 0,.int .i64 0]),(17,.bool true),(16,.int .i64 (ckE r xa xb xc xd)),(8,.int .i64 (ckE r xa xb xc xd)),(15,.int .i64 (ckE r xa xb xc xd)),(14,.agg #[.int .i64 xa,.int .i64 xb,.int .i64 xc,.int .i64 xd]),(13,.int .i64 r),(6,.pointer (some ⟨g6,0,none⟩)),(5,.pointer (some ⟨g5,0,none⟩)),(0,.int .i64 r),(1,.int .i64 n),(2,.agg #[.int .i64 xa,.int .i64 xb,.int .i64 xc,.int .i64 xd])]) hF (r_assign (hF.at 0 rfl)) rfl rfl rfl rfl fun a hF=>?_
 refine E.nil ?_
 refine wp_ret ?_
 have bel:=st.bel
 refine bodyPost_ret (res_celltmp Tryz.results24 (hF.at 9 rfl) (ld_all ty_SOD (st.bk 0 rfl) rfl) (hF.at 0 rfl)) hF.dfr ?_
 exact⟨rfl,bel⟩
theorem soOfR_any (r n xa xb xc xd:Int) (w:World) (hE:ckE r xa xb xc xd=0) (hx:¬(-3000000≤n∧n≤3000000)):
 Calls Tryz.prog 24 #[.int .i64 r,.int .i64 n,.agg #[.int .i64 xa,.int .i64 xb,.int .i64 xc,.int .i64 xd]] w (ValPost w (.tuple #[.agg #[.int .i64 0,.int .i64 0,.int .i64 0],.int .i64 2])):=by
 have st:=St.start w
 refine E.enter (nt:=46) (L:=[(0,.int .i64 r),(1,.int .i64 n),(2,.agg #[.int .i64 xa,.int .i64 xb,.int .i64 xc,.int .i64 xd])]) Tryz.func24 rfl rfl rfl (args_cons (i:=0) rfl (args_cons (i:=1) rfl (args_cons (i:=2) rfl args_nil))) ?_
 intro a hF
 refine wp_seq ?_
 refine E.seq ?_
 refine S.box st hF (hF.at 2 rfl) rfl rfl fun g5 w1 a st hF=>?_
 refine S.alloc st hF ty_SOD rfl rfl fun g6 w2 a st hF=>?_
 refine E.opv hF (r_assign ev_c) rfl rfl rfl rfl fun a hF=>?_
 refine E.nil ?_
 refine wp_seq ?_
 refine wp_seq ?_
 refine E.seq ?_
 refine E.opv hF (r_move (hF.at 3 rfl)) rfl rfl rfl rfl fun a hF=>?_
 refine E.opv hF (r_load (hF.at 3 rfl) (ld_all ty_Plc (st.bk 1 rfl) rfl)) rfl rfl rfl rfl fun a hF=>?_
 refine S.callx st hF (rgc k86 (map2 (hF.at 1 rfl) (hF.at 0 rfl))) (soChk_any r xa xb xc xd _) rfl rfl rfl rfl fun w3 a st hF=>?_
 refine E.opv hF (r_assign (hF.at 0 rfl)) rfl rfl rfl rfl fun a hF=>?_
 refine E.nil ?_
 refine wp_seq ?_
 refine E.seq ?_
 refine E.opv hF (r_move (hF.at 0 rfl)) rfl rfl rfl rfl fun a hF=>?_
 refine E.opv hF (r_bin (hF.at 0 rfl) ev_c eg_scalar (bi_int (ic_neq (c:=false) (dec_ff (by omega))) (by simp))) rfl rfl rfl rfl fun a hF=>?_
 refine E.nil ?_
 refine wp_cond_false (hF.at 0 rfl) ?_
 refine wp_skip ?_
 refine E.norm ?_
 refine wp_seq ?_
 refine wp_seq ?_
 refine E.seq ?_
 refine E.opv hF (r_move (hF.at 10 rfl)) rfl rfl rfl rfl fun a hF=>?_
 refine S.callx st hF (rgc k87 (map1 (hF.at 0 rfl))) (soInX_any n _ (by omega)) rfl rfl rfl rfl fun w4 a st hF=>?_
 refine E.opv hF (r_un (hF.at 0 rfl) (bn_not _ true rfl)) rfl rfl rfl rfl fun a hF=>?_
 refine E.nil ?_
 refine wp_cond_true (hF.at 0 rfl) ?_
 refine wp_seq ?_
 refine E.seq ?_
 refine E.opv hF (r_build (by simp) (bd_SOD_ _)) rfl rfl rfl rfl fun a hF=>?_
 refine S.stoI st hF 0 rfl (hF.at 11 rfl) (hF.at 0 rfl) ty_SOD rfl rfl rfl fun w5 a st hF=>?_
 refine E.opset (L':=[(7,.int .i64 2),(23,.agg #[.int .i64 0,.int .i64 0,.int .i64 0]),(22,.bool true),(21,.bool false),(20,.int .i64 n),(17,.bool false),(16,.int .i64 (ckE r xa xb xc xd)),(8,.int .i64 (ckE r xa xb xc xd)),(15,.int .i64 (ckE r xa xb xc xd)),(14,.agg #[.int .i64 xa,.int .i64 xb,.int .i64 xc,.int .i64 xd]),(13,.int .i64 r),(6,.pointer (some ⟨g6,0,none⟩)),(5,.pointer (some ⟨g5,0,none⟩)),(0,.int .i64 r),(1,.int .i64 n),(2,.agg #[.int .i64 xa,.int .i64 xb,.int .i64 xc,.int .i64 xd])]) hF (r_assign ev_c) rfl rfl rfl rfl fun a hF=>?_
 refine E.nil ?_
 refine wp_ret ?_
 have bel:=st.bel
 refine bodyPost_ret (res_celltmp Tryz.results24 (hF.at 11 rfl) (ld_all ty_SOD (st.bk 0 rfl) rfl) (hF.at 0 rfl)) hF.dfr ?_
 exact⟨rfl,bel⟩
theorem soOf_any (r n:Int) (xa xb xc xd:Int) (w:World) (hT:TabD w) (hok:PlOk xa xb xc xd) (hr0:0≤r) (hr1:r≤3) (hn0: -3000000≤n) (hn1:n≤3000000):
 Calls Tryz.prog 24 #[.int .i64 r,.int .i64 n,.agg #[.int .i64 xa,.int .i64 xb,.int .i64 xc,.int .i64 xd]] w (ValPost w (.tuple #[.agg #[.int .i64 (kaV (criQ r n xa xb xc xd)/12-1955880000-3179),.int .i64 (kaV (criQ r n xa xb xc xd)%12+1),.int .i64 (n-fsD (criF r xa xb xc xd) n+1)],.int .i64 0])):=by
 have hck:ckE r xa xb xc xd=0:=ckE_ok hr0 hr1 hok
 have hkc:=kc_bd r (n:=n) hok (by omega) (by omega)
 have hfs:=fs_spec (cf_ok r hok) n
 have hfo:foD (criF r xa xb xc xd) (kaV (criQ r n xa xb xc xd)/12-1955880000-3179) (kaV (criQ r n xa xb xc xd)%12+1)=fsD (criF r xa xb xc xd) n:=fo_day (cf_ok r hok) (cf_near r hok) n
 have st:=St.start w
 refine E.enter (nt:=46) (L:=[(0,.int .i64 r),(1,.int .i64 n),(2,.agg #[.int .i64 xa,.int .i64 xb,.int .i64 xc,.int .i64 xd])]) Tryz.func24 rfl rfl rfl (args_cons (i:=0) rfl (args_cons (i:=1) rfl (args_cons (i:=2) rfl args_nil))) ?_
 intro a hF
 refine wp_seq ?_
 refine E.seq ?_
 refine S.box st hF (hF.at 2 rfl) rfl rfl fun g5 w1 a st hF=>?_
 refine S.alloc st hF ty_SOD rfl rfl fun g6 w2 a st hF=>?_
 refine E.opv hF (r_assign ev_c) rfl rfl rfl rfl fun a hF=>?_
 refine E.nil ?_
 refine wp_seq ?_
 refine wp_seq ?_
 refine E.seq ?_
 refine E.opv hF (r_move (hF.at 3 rfl)) rfl rfl rfl rfl fun a hF=>?_
 refine E.opv hF (r_load (hF.at 3 rfl) (ld_all ty_Plc (st.bk 1 rfl) rfl)) rfl rfl rfl rfl fun a hF=>?_
 refine S.callx st hF (rgc k86 (map2 (hF.at 1 rfl) (hF.at 0 rfl))) (soChk_any r xa xb xc xd _) rfl rfl rfl rfl fun w3 a st hF=>?_
 refine E.opv hF (r_assign (hF.at 0 rfl)) rfl rfl rfl rfl fun a hF=>?_
 refine E.nil ?_
 refine wp_seq ?_
 refine E.seq ?_
 refine E.opv hF (r_move (hF.at 0 rfl)) rfl rfl rfl rfl fun a hF=>?_
 refine E.opv hF (r_bin (hF.at 0 rfl) ev_c eg_scalar (bi_int (ic_neq (c:=false) (dec_ff (by omega))) (by simp))) rfl rfl rfl rfl fun a hF=>?_
 refine E.nil ?_
 refine wp_cond_false (hF.at 0 rfl) ?_
 refine wp_skip ?_
 refine E.norm ?_
 refine wp_seq ?_
 refine wp_seq ?_
 refine E.seq ?_
 refine E.opv hF (r_move (hF.at 10 rfl)) rfl rfl rfl rfl fun a hF=>?_
 refine S.callx st hF (rgc k87 (map1 (hF.at 0 rfl))) (soIn_any n _ (by omega) (by omega)) rfl rfl rfl rfl fun w4 a st hF=>?_
 refine E.opv hF (r_un (hF.at 0 rfl) (bn_not _ false rfl)) rfl rfl rfl rfl fun a hF=>?_
 refine E.nil ?_
 refine wp_cond_false (hF.at 0 rfl) ?_
 refine wp_skip ?_
 refine E.norm ?_
 refine wp_seq ?_
 refine E.seq ?_
 refine E.opv hF (r_move (hF.at 12 rfl)) rfl rfl rfl rfl fun a hF=>?_
 refine E.opv hF (r_move (hF.at 14 rfl)) rfl rfl rfl rfl fun a hF=>?_
 refine E.opv hF (r_load (hF.at 13 rfl) (ld_all ty_Plc (st.bk 1 rfl) rfl)) rfl rfl rfl rfl fun a hF=>?_
 refine S.ck st hF (rgc k16 (map3 (hF.at 2 rfl) (hF.at 1 rfl) (hF.at 0 rfl))) (rq_ret (soCrit_any r n xa xb xc xd _ (hT.below st.bel) (by first|assumption|exact⟨by omega,by omega,by omega,by omega,by omega,by omega,by omega,by omega⟩) (by omega) (by omega)) (criQ_lim (by first|assumption|exact⟨by omega,by omega,by omega,by omega,by omega,by omega,by omega,by omega⟩) (by omega) (by omega))) Rl.cl rfl fun vv6 w5 a st hF=>?_
 obtain⟨b8,ad8,n8,c8,ae8,m8,d8,rfl⟩:=Rq.form (st.f 0 rfl).1
 refine S.new st hF 0 rfl ty_Rat rfl rfl rfl rfl rfl fun g9 w9 a st hF=>?_
 refine E.nil ?_
 refine wp_seq ?_
 refine E.rg 8 mixed hF [28,29,30,31,32,33,10,11] [_,_,.ex (.int .i64 ((kaV (criQ r n xa xb xc xd)/12-1955880000)-3179)),_,_,.ex (.int .i64 ((kaV (criQ r n xa xb xc xd)%12)+1)),.ex (.int .i64 ((kaV (criQ r n xa xb xc xd)/12-1955880000)-3179)),.ex (.int .i64 ((kaV (criQ r n xa xb xc xd)%12)+1))] (by decide+kernel) rfl rfl rfl ⟨rb st ty_Rat 0 0 rfl,ck st k20 rfl fun _ s=>ex_ret (soCount_any _ (criQ r n xa xb xc xd) 3 _ (hT.below s.bel) (s.f 0 rfl).1 (s.f 0 rfl).2 (by omega) (by omega) (by omega)),(by intro a' w' hF' hb hd;have e29:=sHe hd 0 29 rfl rfl rfl rfl;exact dv0 (r_bin e29 ev_c eg_scalar (ia_sub (by omega) (by omega))) rfl rfl rfl),rb st ty_Rat 0 0 rfl,ck st k31 rfl fun _ s=>ex_ret (soSign12_any _ (criQ r n xa xb xc xd) 3 _ (hT.below s.bel) (s.f 0 rfl).1 (s.f 0 rfl).2 (by omega)),(by intro a' w' hF' hb hd;have e32:=sHe hd 0 32 rfl rfl rfl rfl;exact dv0 (r_bin e32 ev_c eg_scalar (ia_add (by omega) (by omega))) rfl rfl rfl),(by intro a' w' hF' hb hd;have e30:=sHe hd 0 30 rfl rfl rfl rfl;exact dv0 (r_assign e30) rfl rfl rfl),(by intro a' w' hF' hb hd;have e33:=sHe hd 0 33 rfl rfl rfl rfl;exact dv0 (r_assign e33) rfl rfl rfl),trivial⟩ ?_
 intro a w10 hF bb hall
 replace st:=st.to bb
 replace hF:=rE hall hF 6 rfl rfl
 replace hF:=rE hall hF 7 rfl rfl
 clear hall bb
 refine E.nil ?_
 refine wp_seq ?_
 refine E.seq ?_
 refine E.opv hF (r_move (hF.at 19 rfl)) rfl rfl rfl rfl fun a hF=>?_
 refine E.opv hF (r_move (hF.at 2 rfl)) rfl rfl rfl rfl fun a hF=>?_
 refine E.opv hF (r_move (hF.at 2 rfl)) rfl rfl rfl rfl fun a hF=>?_
 refine E.opv hF (r_load (hF.at 21 rfl) (ld_all ty_Plc (st.bk 2 rfl) rfl)) rfl rfl rfl rfl fun a hF=>?_
 refine S.callx st hF (rgc k29 (map4 (hF.at 3 rfl) (hF.at 2 rfl) (hF.at 1 rfl) (hF.at 0 rfl))) (soFirst_any r ((kaV (criQ r n xa xb xc xd)/12-1955880000)-3179) ((kaV (criQ r n xa xb xc xd)%12)+1) xa xb xc xd _ (hT.below st.bel) (by first|assumption|exact⟨by omega,by omega,by omega,by omega,by omega,by omega,by omega,by omega⟩) (by omega) (by omega) (by omega) (by omega) (by omega) (by omega)) rfl rfl rfl rfl fun w11 a st hF=>?_
 refine E.opv hF (r_assign (hF.at 0 rfl)) rfl rfl rfl rfl fun a hF=>?_
 refine E.nil ?_
 refine wp_seq ?_
 refine E.seq ?_
 refine E.opv hF (r_move (hF.at 7 rfl)) rfl rfl rfl rfl fun a hF=>?_
 refine E.opv hF (r_move (hF.at 7 rfl)) rfl rfl rfl rfl fun a hF=>?_
 refine E.opv hF (r_move (hF.at 28 rfl)) rfl rfl rfl rfl fun a hF=>?_
 refine E.opv hF (r_move (hF.at 3 rfl)) rfl rfl rfl rfl fun a hF=>?_
 refine E.opv hF (r_bin (hF.at 1 rfl) (hF.at 0 rfl) eg_scalar (ia_sub (by omega) (by omega))) rfl rfl rfl rfl fun a hF=>?_
 refine E.opv hF (r_bin (hF.at 0 rfl) ev_c eg_scalar (ia_add (by omega) (by omega))) rfl rfl rfl rfl fun a hF=>?_
 refine E.opv hF (r_build (pair3 (hF.at 5 rfl) (hF.at 4 rfl) (hF.at 0 rfl)) (bd_SOD_012 _ _ _ _)) rfl rfl rfl rfl fun a hF=>?_
 refine S.stoI st hF 1 rfl (hF.at 30 rfl) (hF.at 0 rfl) ty_SOD rfl rfl rfl fun w12 a st hF=>?_
 refine E.opset (L':=[(7,.int .i64 0),(45,.agg #[.int .i64 ((kaV (criQ r n xa xb xc xd)/12-1955880000)-3179),.int .i64 ((kaV (criQ r n xa xb xc xd)%12)+1),.int .i64 ((n-(foD (criF r xa xb xc xd) ((kaV (criQ r n xa xb xc xd)/12-1955880000)-3179) ((kaV (criQ r n xa xb xc xd)%12)+1)))+1)]),(44,.int .i64 ((n-(foD (criF r xa xb xc xd) ((kaV (criQ r n xa xb xc xd)/12-1955880000)-3179) ((kaV (criQ r n xa xb xc xd)%12)+1)))+1)),(43,.int .i64 (n-(foD (criF r xa xb xc xd) ((kaV (criQ r n xa xb xc xd)/12-1955880000)-3179) ((kaV (criQ r n xa xb xc xd)%12)+1)))),(42,.int .i64 (foD (criF r xa xb xc xd) ((kaV (criQ r n xa xb xc xd)/12-1955880000)-3179) ((kaV (criQ r n xa xb xc xd)%12)+1))),(41,.int .i64 n),(40,.int .i64 ((kaV (criQ r n xa xb xc xd)%12)+1)),(39,.int .i64 ((kaV (criQ r n xa xb xc xd)/12-1955880000)-3179)),(12,.int .i64 (foD (criF r xa xb xc xd) ((kaV (criQ r n xa xb xc xd)/12-1955880000)-3179) ((kaV (criQ r n xa xb xc xd)%12)+1))),(38,.int .i64 (foD (criF r xa xb xc xd) ((kaV (criQ r n xa xb xc xd)/12-1955880000)-3179) ((kaV (criQ r n xa xb xc xd)%12)+1))),(37,.agg #[.int .i64 xa,.int .i64 xb,.int .i64 xc,.int .i64 xd]),(36,.int .i64 ((kaV (criQ r n xa xb xc xd)%12)+1)),(35,.int .i64 ((kaV (criQ r n xa xb xc xd)/12-1955880000)-3179)),(34,.int .i64 r),(11,.int .i64 ((kaV (criQ r n xa xb xc xd)%12)+1)),(10,.int .i64 ((kaV (criQ r n xa xb xc xd)/12-1955880000)-3179)),(9,.pointer (some ⟨g9,0,none⟩)),(27,.agg #[.bool b8,.slice ad8 n8 c8,.slice ae8 m8 d8]),(26,.agg #[.int .i64 xa,.int .i64 xb,.int .i64 xc,.int .i64 xd]),(25,.int .i64 n),(24,.int .i64 r),(22,.bool false),(21,.bool true),(20,.int .i64 n),(17,.bool false),(16,.int .i64 (ckE r xa xb xc xd)),(8,.int .i64 (ckE r xa xb xc xd)),(15,.int .i64 (ckE r xa xb xc xd)),(14,.agg #[.int .i64 xa,.int .i64 xb,.int .i64 xc,.int .i64 xd]),(13,.int .i64 r),(6,.pointer (some ⟨g6,0,none⟩)),(5,.pointer (some ⟨g5,0,none⟩)),(0,.int .i64 r),(1,.int .i64 n),(2,.agg #[.int .i64 xa,.int .i64 xb,.int .i64 xc,.int .i64 xd])]) hF (r_assign ev_c) rfl rfl rfl rfl fun a hF=>?_
 refine E.nil ?_
 refine wp_ret ?_
 have bel:=st.bel
 refine bodyPost_ret (res_celltmp Tryz.results24 (hF.at 30 rfl) (ld_all ty_SOD (st.bk 1 rfl) rfl) (hF.at 0 rfl)) hF.dfr ?_
 refine⟨?_,bel⟩
 rw[hfo]
theorem soFixE_any (r y m d xa xb xc xd:Int) (w:World) (hE:ckE r xa xb xc xd≠0):
 Calls Tryz.prog 25 #[.int .i64 r,.agg #[.int .i64 y,.int .i64 m,.int .i64 d],.agg #[.int .i64 xa,.int .i64 xb,.int .i64 xc,.int .i64 xd]] w (ValPost w (.tuple #[.int .i64 0,.int .i64 (ckE r xa xb xc xd)])):=by
 have st:=St.start w
 refine E.enter (nt:=72) (L:=[(0,.int .i64 r),(1,.agg #[.int .i64 y,.int .i64 m,.int .i64 d]),(2,.agg #[.int .i64 xa,.int .i64 xb,.int .i64 xc,.int .i64 xd])]) Tryz.func25 rfl rfl rfl (args_cons (i:=0) rfl (args_cons (i:=1) rfl (args_cons (i:=2) rfl args_nil))) ?_
 intro a hF
 refine wp_seq ?_
 refine E.seq ?_
 refine S.box st hF (hF.at 1 rfl) rfl rfl fun g4 w1 a st hF=>?_
 refine S.box st hF (hF.at 3 rfl) rfl rfl fun g5 w2 a st hF=>?_
 refine E.opv hF (r_assign ev_c) rfl rfl rfl rfl fun a hF=>?_
 refine E.opv hF (r_assign ev_c) rfl rfl rfl rfl fun a hF=>?_
 refine E.nil ?_
 refine wp_seq ?_
 refine wp_seq ?_
 refine E.seq ?_
 refine E.opv hF (r_move (hF.at 4 rfl)) rfl rfl rfl rfl fun a hF=>?_
 refine E.opv hF (r_load (hF.at 3 rfl) (ld_all ty_Plc (st.bk 0 rfl) rfl)) rfl rfl rfl rfl fun a hF=>?_
 refine S.callx st hF (rgc k86 (map2 (hF.at 1 rfl) (hF.at 0 rfl))) (soChk_any r xa xb xc xd _) rfl rfl rfl rfl fun w3 a st hF=>?_
 refine E.opv hF (r_assign (hF.at 0 rfl)) rfl rfl rfl rfl fun a hF=>?_
 refine E.nil ?_
 refine wp_seq ?_
 refine E.seq ?_
 refine E.opv hF (r_move (hF.at 0 rfl)) rfl rfl rfl rfl fun a hF=>?_
 refine E.opv hF (r_bin (hF.at 0 rfl) ev_c eg_scalar (bi_int (ic_neq (c:=true) (dec_tt (by omega))) (by simp))) rfl rfl rfl rfl fun a hF=>?_
 refine E.nil ?_
 refine wp_cond_true (hF.at 0 rfl) ?_
 refine wp_seq ?_
 refine E.seq ?_
 refine E.opv hF (r_move (hF.at 2 rfl)) rfl rfl rfl rfl fun a hF=>?_
 refine E.opset (L':=[(6,.int .i64 0),(17,.int .i64 (ckE r xa xb xc xd)),(16,.bool true),(15,.int .i64 (ckE r xa xb xc xd)),(8,.int .i64 (ckE r xa xb xc xd)),(14,.int .i64 (ckE r xa xb xc xd)),(13,.agg #[.int .i64 xa,.int .i64 xb,.int .i64 xc,.int .i64 xd]),(12,.int .i64 r),(7,.int .i64 0),(5,.pointer (some ⟨g5,0,none⟩)),(4,.pointer (some ⟨g4,0,none⟩)),(0,.int .i64 r),(1,.agg #[.int .i64 y,.int .i64 m,.int .i64 d]),(2,.agg #[.int .i64 xa,.int .i64 xb,.int .i64 xc,.int .i64 xd])]) hF (r_assign ev_c) rfl rfl rfl rfl fun a hF=>?_
 refine E.opset (L':=[(7,.int .i64 (ckE r xa xb xc xd)),(6,.int .i64 0),(17,.int .i64 (ckE r xa xb xc xd)),(16,.bool true),(15,.int .i64 (ckE r xa xb xc xd)),(8,.int .i64 (ckE r xa xb xc xd)),(14,.int .i64 (ckE r xa xb xc xd)),(13,.agg #[.int .i64 xa,.int .i64 xb,.int .i64 xc,.int .i64 xd]),(12,.int .i64 r),(5,.pointer (some ⟨g5,0,none⟩)),(4,.pointer (some ⟨g4,0,none⟩)),(0,.int .i64 r),(1,.agg #[.int .i64 y,.int .i64 m,.int .i64 d]),(2,.agg #[.int .i64 xa,.int .i64 xb,.int .i64 xc,.int .i64 xd])]) hF (r_assign (hF.at 1 rfl)) rfl rfl rfl rfl fun a hF=>?_
 refine E.nil ?_
 refine wp_ret ?_
 have bel:=st.bel
 refine bodyPost_ret (res_tmp2 Tryz.results25 (hF.at 1 rfl) (hF.at 0 rfl)) hF.dfr ?_
 exact⟨rfl,bel⟩
theorem soFix_any (r y m d:Int) (xa xb xc xd:Int) (w:World) (hT:TabD w) (hok:PlOk xa xb xc xd) (hr0:0≤r) (hr1:r≤3) (hm0:1≤m) (hm1:m≤12) (hd0:1≤d) (hd1:d≤32) (hy0: -9000≤y) (hy1:y≤9000):
 Calls Tryz.prog 25 #[.int .i64 r,.agg #[.int .i64 y,.int .i64 m,.int .i64 d],.agg #[.int .i64 xa,.int .i64 xb,.int .i64 xc,.int .i64 xd]] w (ValPost w (.tuple #[.int .i64 (soN (criF r xa xb xc xd) y m d),.int .i64 (soE (criF r xa xb xc xd) y m d)])):=by
 have hck:ckE r xa xb xc xd=0:=ckE_ok hr0 hr1 hok
 have hfb:=fo_bd (cf_ok r hok) (cf_near r hok) hy0 hy1 hm0 hm1
 have st:=St.start w
 refine E.enter (nt:=72) (L:=[(0,.int .i64 r),(1,.agg #[.int .i64 y,.int .i64 m,.int .i64 d]),(2,.agg #[.int .i64 xa,.int .i64 xb,.int .i64 xc,.int .i64 xd])]) Tryz.func25 rfl rfl rfl (args_cons (i:=0) rfl (args_cons (i:=1) rfl (args_cons (i:=2) rfl args_nil))) ?_
 intro a hF
 refine wp_seq ?_
 refine E.seq ?_
 refine S.box st hF (hF.at 1 rfl) rfl rfl fun g4 w1 a st hF=>?_
 refine S.box st hF (hF.at 3 rfl) rfl rfl fun g5 w2 a st hF=>?_
 refine E.opv hF (r_assign ev_c) rfl rfl rfl rfl fun a hF=>?_
 refine E.opv hF (r_assign ev_c) rfl rfl rfl rfl fun a hF=>?_
 refine E.nil ?_
 refine wp_seq ?_
 refine wp_seq ?_
 refine E.seq ?_
 refine E.opv hF (r_move (hF.at 4 rfl)) rfl rfl rfl rfl fun a hF=>?_
 refine E.opv hF (r_load (hF.at 3 rfl) (ld_all ty_Plc (st.bk 0 rfl) rfl)) rfl rfl rfl rfl fun a hF=>?_
 refine S.callx st hF (rgc k86 (map2 (hF.at 1 rfl) (hF.at 0 rfl))) (soChk_any r xa xb xc xd _) rfl rfl rfl rfl fun w3 a st hF=>?_
 refine E.opv hF (r_assign (hF.at 0 rfl)) rfl rfl rfl rfl fun a hF=>?_
 refine E.nil ?_
 refine wp_seq ?_
 refine E.seq ?_
 refine E.opv hF (r_move (hF.at 0 rfl)) rfl rfl rfl rfl fun a hF=>?_
 refine E.opv hF (r_bin (hF.at 0 rfl) ev_c eg_scalar (bi_int (ic_neq (c:=false) (dec_ff (by omega))) (by simp))) rfl rfl rfl rfl fun a hF=>?_
 refine E.nil ?_
 refine wp_cond_false (hF.at 0 rfl) ?_
 refine wp_skip ?_
 refine E.norm ?_
 refine wp_seq ?_
 refine wp_block ?_
 refine wp_seq ?_
 refine E.seq ?_
 refine E.opv hF (r_field (hF.at 9 rfl) (fa_SOD_1 (p:=1) rfl)) rfl rfl rfl rfl fun a hF=>?_
 refine E.opv hF (r_load (hF.at 0 rfl) (ldb_int (v:= .int .i64 m) (st.bk 1 rfl) rfl)) rfl rfl rfl rfl fun a hF=>?_
 refine E.opv hF (r_bin (hF.at 0 rfl) ev_c eg_scalar (bi_int (ic_lss (c:=false) (dec_ff (by omega))) (by simp))) rfl rfl rfl rfl fun a hF=>?_
 refine E.opv hF (r_move (hF.at 0 rfl)) rfl rfl rfl rfl fun a hF=>?_
 refine E.opvg hF (r_field (hF.at 13 rfl) (fa_SOD_1 (p:=1) rfl)) (wanted_by rfl rfl (hF.at 0 rfl) rfl) rfl rfl rfl fun a hF=>?_
 refine E.opvg hF (r_load (hF.at 0 rfl) (ldb_int (v:= .int .i64 m) (st.bk 1 rfl) rfl)) (wanted_by rfl rfl (hF.at 1 rfl) rfl) rfl rfl rfl fun a hF=>?_
 refine E.opvg hF (r_bin (hF.at 0 rfl) ev_c eg_scalar (bi_int (ic_gtr (c:=false) (dec_ff (by omega))) (by simp))) (wanted_by rfl rfl (hF.at 2 rfl) rfl) rfl rfl rfl fun a hF=>?_
 refine E.opv hF (r_pick_f (hF.at 3 rfl) (hF.at 0 rfl)) rfl rfl rfl rfl fun a hF=>?_
 refine E.opv hF (r_move (hF.at 0 rfl)) rfl rfl rfl rfl fun a hF=>?_
 refine E.opvg hF (r_field (hF.at 18 rfl) (fa_SOD_2 (p:=2) rfl)) (wanted_by rfl rfl (hF.at 0 rfl) rfl) rfl rfl rfl fun a hF=>?_
 refine E.opvg hF (r_load (hF.at 0 rfl) (ldb_int (v:= .int .i64 d) (st.bk 1 rfl) rfl)) (wanted_by rfl rfl (hF.at 1 rfl) rfl) rfl rfl rfl fun a hF=>?_
 refine E.opvg hF (r_bin (hF.at 0 rfl) ev_c eg_scalar (bi_int (ic_lss (c:=false) (dec_ff (by omega))) (by simp))) (wanted_by rfl rfl (hF.at 2 rfl) rfl) rfl rfl rfl fun a hF=>?_
 refine E.opv hF (r_pick_f (hF.at 3 rfl) (hF.at 0 rfl)) rfl rfl rfl rfl fun a hF=>?_
 refine E.opv hF (r_move (hF.at 0 rfl)) rfl rfl rfl rfl fun a hF=>?_
 refine E.opvg hF (r_field (hF.at 23 rfl) (fa_SOD_2 (p:=2) rfl)) (wanted_by rfl rfl (hF.at 0 rfl) rfl) rfl rfl rfl fun a hF=>?_
 refine E.opvg hF (r_load (hF.at 0 rfl) (ldb_int (v:= .int .i64 d) (st.bk 1 rfl) rfl)) (wanted_by rfl rfl (hF.at 1 rfl) rfl) rfl rfl rfl fun a hF=>?_
 refine E.opvg hF (r_bin (hF.at 0 rfl) ev_c eg_scalar (bi_int (ic_gtr (c:=false) (dec_ff (by omega))) (by simp))) (wanted_by rfl rfl (hF.at 2 rfl) rfl) rfl rfl rfl fun a hF=>?_
 refine E.opv hF (r_pick_f (hF.at 3 rfl) (hF.at 0 rfl)) rfl rfl rfl rfl fun a hF=>?_
 refine E.opv hF (r_assign (hF.at 0 rfl)) rfl rfl rfl rfl fun a hF=>?_
 refine E.nil ?_
 refine wp_cond_false (hF.at 0 rfl) ?_
 refine wp_seq ?_
 refine E.seq ?_
 refine E.opv hF (r_field (hF.at 28 rfl) (fa_SOD_0 (p:=0) rfl)) rfl rfl rfl rfl fun a hF=>?_
 refine E.opv hF (r_load (hF.at 0 rfl) (ldb_i64 (v:= .int .i64 y) (st.bk 1 rfl) rfl)) rfl rfl rfl rfl fun a hF=>?_
 refine E.opv hF (r_bin (hF.at 0 rfl) ev_c eg_scalar (bi_int (ic_lss (c:=false) (dec_ff (by omega))) (by simp))) rfl rfl rfl rfl fun a hF=>?_
 refine E.opv hF (r_move (hF.at 0 rfl)) rfl rfl rfl rfl fun a hF=>?_
 refine E.opvg hF (r_field (hF.at 32 rfl) (fa_SOD_0 (p:=0) rfl)) (wanted_by rfl rfl (hF.at 0 rfl) rfl) rfl rfl rfl fun a hF=>?_
 refine E.opvg hF (r_load (hF.at 0 rfl) (ldb_i64 (v:= .int .i64 y) (st.bk 1 rfl) rfl)) (wanted_by rfl rfl (hF.at 1 rfl) rfl) rfl rfl rfl fun a hF=>?_
 refine E.opvg hF (r_bin (hF.at 0 rfl) ev_c eg_scalar (bi_int (ic_gtr (c:=false) (dec_ff (by omega))) (by simp))) (wanted_by rfl rfl (hF.at 2 rfl) rfl) rfl rfl rfl fun a hF=>?_
 refine E.opv hF (r_pick_f (hF.at 3 rfl) (hF.at 0 rfl)) rfl rfl rfl rfl fun a hF=>?_
 refine E.opv hF (r_assign (hF.at 0 rfl)) rfl rfl rfl rfl fun a hF=>?_
 refine E.nil ?_
 refine wp_cond_false (hF.at 0 rfl) ?_
 refine wp_skip ?_
 refine E.blk ?_
 refine E.norm ?_
 refine wp_seq ?_
 refine E.rg 12 mixed hF [46,47,48,49,50,51,52,53,54,55,56,9] [_,_,.ex (.int .i64 y),_,.ex (.int .i64 m),_,_,_,.ex (.int .i64 d),.ex (.int .i64 (d-1)),.ex (.int .i64 ((foD (criF r xa xb xc xd) y m)+(d-1))),.ex (.int .i64 ((foD (criF r xa xb xc xd) y m)+(d-1)))] (by decide+kernel) rfl rfl rfl ⟨rm 38 rfl,rd rfl rfl fun a' w' hF' hb=>(r_field (hF'.at 37 rfl) (fa_SOD_0 (p:=0) rfl)),(by intro a' w' hF' hb hd;have e47:=sHe hd 0 47 rfl rfl rfl rfl;exact dv0 (r_load e47 (ldb_i64 (v:= .int .i64 y) ((st.bk 1 rfl).below hb) rfl)) rfl rfl rfl),rd rfl rfl fun a' w' hF' hb=>(r_field (hF'.at 37 rfl) (fa_SOD_1 (p:=1) rfl)),(by intro a' w' hF' hb hd;have e49:=sHe hd 0 49 rfl rfl rfl rfl;exact dv0 (r_load e49 (ldb_int (v:= .int .i64 m) ((st.bk 1 rfl).below hb) rfl)) rfl rfl rfl),rb st ty_Plc 36 0 rfl,ck st k29 rfl fun _ s=>ex_ret (soFirst_any r y m xa xb xc xd _ (hT.below s.bel) (by first|assumption|exact⟨by omega,by omega,by omega,by omega,by omega,by omega,by omega,by omega⟩) (by omega) (by omega) (by omega) (by omega) (by omega) (by omega)),rd rfl rfl fun a' w' hF' hb=>(r_field (hF'.at 37 rfl) (fa_SOD_2 (p:=2) rfl)),(by intro a' w' hF' hb hd;have e53:=sHe hd 0 53 rfl rfl rfl rfl;exact dv0 (r_load e53 (ldb_int (v:= .int .i64 d) ((st.bk 1 rfl).below hb) rfl)) rfl rfl rfl),(by intro a' w' hF' hb hd;have e54:=sHe hd 0 54 rfl rfl rfl rfl;exact dv0 (r_bin e54 ev_c eg_scalar (ia_sub (by omega) (by omega))) rfl rfl rfl),(by intro a' w' hF' hb hd;have e52:=sHe hd 0 52 rfl rfl rfl rfl;have e55:=sHe hd 1 55 rfl rfl rfl rfl;exact dv0 (r_bin e52 e55 eg_scalar (ia_add (by omega) (by omega))) rfl rfl rfl),(by intro a' w' hF' hb hd;have e56:=sHe hd 0 56 rfl rfl rfl rfl;exact dv0 (r_assign e56) rfl rfl rfl),trivial⟩ ?_
 intro a w4 hF bb hall
 replace st:=st.to bb
 replace hF:=rE hall hF 11 rfl rfl
 clear hall bb
 obtain⟨n,hn⟩:∃z:Int,z=(foD (criF r xa xb xc xd) y m)+(d-1):=⟨_,rfl⟩
 rw[←hn] at hF
 refine E.nil ?_
 refine wp_seq ?_
 refine wp_seq ?_
 refine E.seq ?_
 refine E.opv hF (r_move (hF.at 39 rfl)) rfl rfl rfl rfl fun a hF=>?_
 refine E.opv hF (r_move (hF.at 1 rfl)) rfl rfl rfl rfl fun a hF=>?_
 refine E.opv hF (r_load (hF.at 39 rfl) (ld_all ty_Plc (st.bk 0 rfl) rfl)) rfl rfl rfl rfl fun a hF=>?_
 by_cases hc5: -3000000≤n∧n≤3000000
 ·refine S.callx st hF (rgc k24 (map3 (hF.at 2 rfl) (hF.at 1 rfl) (hF.at 0 rfl))) (soOf_any r n xa xb xc xd _ (hT.below st.bel) (by first|assumption|exact⟨by omega,by omega,by omega,by omega,by omega,by omega,by omega,by omega⟩) (by omega) (by omega) (by omega) (by omega)) rfl rfl rfl rfl fun w6 a st hF=>?_
  refine E.opv hF (r_move (hF.at 0 rfl)) rfl rfl rfl rfl fun a hF=>?_
  refine E.opv hF (r_extract (v:= .agg #[.int .i64 (kaV (criQ r n xa xb xc xd)/12-1955880000-3179),.int .i64 (kaV (criQ r n xa xb xc xd)%12+1),.int .i64 (n-fsD (criF r xa xb xc xd) n+1)]) (hF.at 0 rfl) rfl) rfl rfl rfl rfl fun a hF=>?_
  refine E.opv hF (r_extract (v:= .int .i64 0) (hF.at 1 rfl) rfl) rfl rfl rfl rfl fun a hF=>?_
  refine S.new st hF 1 rfl ty_SOD rfl rfl rfl rfl rfl fun g10 w7 a st hF=>?_
  refine E.opv hF (r_assign (hF.at 1 rfl)) rfl rfl rfl rfl fun a hF=>?_
  refine E.nil ?_
  refine wp_seq ?_
  refine E.seq ?_
  refine E.opv hF (r_move (hF.at 0 rfl)) rfl rfl rfl rfl fun a hF=>?_
  refine E.opv hF (r_bin (hF.at 0 rfl) ev_c eg_scalar (bi_int (ic_neq (c:=false) (by decide)) (by simp))) rfl rfl rfl rfl fun a hF=>?_
  refine E.opv hF (r_move (hF.at 0 rfl)) rfl rfl rfl rfl fun a hF=>?_
  refine E.opvg hF (r_load (hF.at 4 rfl) (ld_all ty_SOD (st.bk 0 rfl) rfl)) (wanted_by rfl rfl (hF.at 0 rfl) rfl) rfl rfl rfl fun a hF=>?_
  refine E.opvg hF (r_load (hF.at 51 rfl) (ld_all ty_SOD (st.bk 2 rfl) rfl)) (wanted_by rfl rfl (hF.at 1 rfl) rfl) rfl rfl rfl fun a hF=>?_
  by_cases hc8:(kaV (criQ r n xa xb xc xd)/12-1955880000-3179)=y∧(kaV (criQ r n xa xb xc xd)%12+1)=m∧(n-fsD (criF r xa xb xc xd) n+1)=d
  ·refine E.opvg hF (r_bin (hF.at 1 rfl) (hF.at 0 rfl) eg_SOD (ens_SOD (dec_tt hc8))) (wanted_by rfl rfl (hF.at 2 rfl) rfl) rfl rfl rfl fun a hF=>?_
   refine E.opv hF (r_pick_f (hF.at 3 rfl) (hF.at 0 rfl)) rfl rfl rfl rfl fun a hF=>?_
   refine E.nil ?_
   refine wp_cond_false (hF.at 0 rfl) ?_
   refine wp_skip ?_
   refine E.norm ?_
   refine wp_seq ?_
   refine E.seq ?_
   refine E.opv hF (r_move (hF.at 16 rfl)) rfl rfl rfl rfl fun a hF=>?_
   refine E.opset (L':=[(6,.int .i64 n),(71,.int .i64 n),(70,.bool false),(69,.bool false),(68,.agg #[.int .i64 y,.int .i64 m,.int .i64 d]),(67,.agg #[.int .i64 (kaV (criQ r n xa xb xc xd)/12-1955880000-3179),.int .i64 (kaV (criQ r n xa xb xc xd)%12+1),.int .i64 (n-fsD (criF r xa xb xc xd) n+1)]),(66,.bool false),(65,.bool false),(64,.int .i64 0),(11,.int .i64 0),(10,.pointer (some ⟨g10,0,none⟩)),(63,.int .i64 0),(62,.agg #[.int .i64 (kaV (criQ r n xa xb xc xd)/12-1955880000-3179),.int .i64 (kaV (criQ r n xa xb xc xd)%12+1),.int .i64 (n-fsD (criF r xa xb xc xd) n+1)]),(57,.tuple #[.agg #[.int .i64 (kaV (criQ r n xa xb xc xd)/12-1955880000-3179),.int .i64 (kaV (criQ r n xa xb xc xd)%12+1),.int .i64 (n-fsD (criF r xa xb xc xd) n+1)],.int .i64 0]),(61,.tuple #[.agg #[.int .i64 (kaV (criQ r n xa xb xc xd)/12-1955880000-3179),.int .i64 (kaV (criQ r n xa xb xc xd)%12+1),.int .i64 (n-fsD (criF r xa xb xc xd) n+1)],.int .i64 0]),(60,.agg #[.int .i64 xa,.int .i64 xb,.int .i64 xc,.int .i64 xd]),(59,.int .i64 n),(58,.int .i64 r),(9,.int .i64 n),(37,.bool false),(45,.bool false),(44,.bool false),(43,.int .i64 y),(42,.pointer (some ⟨g4,0,none⟩)),(41,.bool false),(40,.bool false),(39,.int .i64 y),(38,.pointer (some ⟨g4,0,none⟩)),(18,.bool false),(36,.bool false),(35,.bool false),(34,.int .i64 d),(33,.pointer (some ⟨g4,2,none⟩)),(32,.bool false),(31,.bool false),(30,.bool false),(29,.int .i64 d),(28,.pointer (some ⟨g4,2,none⟩)),(27,.bool false),(26,.bool false),(25,.bool false),(24,.int .i64 m),(23,.pointer (some ⟨g4,1,none⟩)),(22,.bool false),(21,.bool false),(20,.int .i64 m),(19,.pointer (some ⟨g4,1,none⟩)),(16,.bool false),(15,.int .i64 (ckE r xa xb xc xd)),(8,.int .i64 (ckE r xa xb xc xd)),(14,.int .i64 (ckE r xa xb xc xd)),(13,.agg #[.int .i64 xa,.int .i64 xb,.int .i64 xc,.int .i64 xd]),(12,.int .i64 r),(7,.int .i64 0),(5,.pointer (some ⟨g5,0,none⟩)),(4,.pointer (some ⟨g4,0,none⟩)),(0,.int .i64 r),(1,.agg #[.int .i64 y,.int .i64 m,.int .i64 d]),(2,.agg #[.int .i64 xa,.int .i64 xb,.int .i64 xc,.int .i64 xd])]) hF (r_assign (hF.at 0 rfl)) rfl rfl rfl rfl fun a hF=>?_
   refine E.opset (L':=[(7,.int .i64 0),(6,.int .i64 n),(71,.int .i64 n),(70,.bool false),(69,.bool false),(68,.agg #[.int .i64 y,.int .i64 m,.int .i64 d]),(67,.agg #[.int .i64 (kaV (criQ r n xa xb xc xd)/12-1955880000-3179),.int .i64 (kaV (criQ r n xa xb xc xd)%12+1),.int .i64 (n-fsD (criF r xa xb xc xd) n+1)]),(66,.bool false),(65,.bool false),(64,.int .i64 0),(11,.int .i64 0),(10,.pointer (some ⟨g10,0,none⟩)),(63,.int .i64 0),(62,.agg #[.int .i64 (kaV (criQ r n xa xb xc xd)/12-1955880000-3179),.int .i64 (kaV (criQ r n xa xb xc xd)%12+1),.int .i64 (n-fsD (criF r xa xb xc xd) n+1)]),(57,.tuple #[.agg #[.int .i64 (kaV (criQ r n xa xb xc xd)/12-1955880000-3179),.int .i64 (kaV (criQ r n xa xb xc xd)%12+1),.int .i64 (n-fsD (criF r xa xb xc xd) n+1)],.int .i64 0]),(61,.tuple #[.agg #[.int .i64 (kaV (criQ r n xa xb xc xd)/12-1955880000-3179),.int .i64 (kaV (criQ r n xa xb xc xd)%12+1),.int .i64 (n-fsD (criF r xa xb xc xd) n+1)],.int .i64 0]),(60,.agg #[.int .i64 xa,.int .i64 xb,.int .i64 xc,.int .i64 xd]),(59,.int .i64 n),(58,.int .i64 r),(9,.int .i64 n),(37,.bool false),(45,.bool false),(44,.bool false),(43,.int .i64 y),(42,.pointer (some ⟨g4,0,none⟩)),(41,.bool false),(40,.bool false),(39,.int .i64 y),(38,.pointer (some ⟨g4,0,none⟩)),(18,.bool false),(36,.bool false),(35,.bool false),(34,.int .i64 d),(33,.pointer (some ⟨g4,2,none⟩)),(32,.bool false),(31,.bool false),(30,.bool false),(29,.int .i64 d),(28,.pointer (some ⟨g4,2,none⟩)),(27,.bool false),(26,.bool false),(25,.bool false),(24,.int .i64 m),(23,.pointer (some ⟨g4,1,none⟩)),(22,.bool false),(21,.bool false),(20,.int .i64 m),(19,.pointer (some ⟨g4,1,none⟩)),(16,.bool false),(15,.int .i64 (ckE r xa xb xc xd)),(8,.int .i64 (ckE r xa xb xc xd)),(14,.int .i64 (ckE r xa xb xc xd)),(13,.agg #[.int .i64 xa,.int .i64 xb,.int .i64 xc,.int .i64 xd]),(12,.int .i64 r),(5,.pointer (some ⟨g5,0,none⟩)),(4,.pointer (some ⟨g4,0,none⟩)),(0,.int .i64 r),(1,.agg #[.int .i64 y,.int .i64 m,.int .i64 d]),(2,.agg #[.int .i64 xa,.int .i64 xb,.int .i64 xc,.int .i64 xd])]) hF (r_assign ev_c) rfl rfl rfl rfl fun a hF=>?_
   refine E.nil ?_
   refine wp_ret ?_
   have bel:=st.bel
   refine bodyPost_ret (res_tmp2 Tryz.results25 (hF.at 1 rfl) (hF.at 0 rfl)) hF.dfr ?_
   have hfx:=so_0 (show n=soX (criF r xa xb xc xd) y m d from hn) (by omega) hc8
   exact⟨rv_int2 hfx.1 hfx.2,bel⟩
  ·refine E.opvg hF (r_bin (hF.at 1 rfl) (hF.at 0 rfl) eg_SOD (ens_SOD (dec_ff hc8))) (wanted_by rfl rfl (hF.at 2 rfl) rfl) rfl rfl rfl fun a hF=>?_
   refine E.opv hF (r_pick_f (hF.at 3 rfl) (hF.at 0 rfl)) rfl rfl rfl rfl fun a hF=>?_
   refine E.nil ?_
   refine wp_cond_true (hF.at 0 rfl) ?_
   refine wp_seq ?_
   refine E.seq ?_
   refine E.opset (L':=[(6,.int .i64 0),(70,.bool true),(69,.bool true),(68,.agg #[.int .i64 y,.int .i64 m,.int .i64 d]),(67,.agg #[.int .i64 (kaV (criQ r n xa xb xc xd)/12-1955880000-3179),.int .i64 (kaV (criQ r n xa xb xc xd)%12+1),.int .i64 (n-fsD (criF r xa xb xc xd) n+1)]),(66,.bool false),(65,.bool false),(64,.int .i64 0),(11,.int .i64 0),(10,.pointer (some ⟨g10,0,none⟩)),(63,.int .i64 0),(62,.agg #[.int .i64 (kaV (criQ r n xa xb xc xd)/12-1955880000-3179),.int .i64 (kaV (criQ r n xa xb xc xd)%12+1),.int .i64 (n-fsD (criF r xa xb xc xd) n+1)]),(57,.tuple #[.agg #[.int .i64 (kaV (criQ r n xa xb xc xd)/12-1955880000-3179),.int .i64 (kaV (criQ r n xa xb xc xd)%12+1),.int .i64 (n-fsD (criF r xa xb xc xd) n+1)],.int .i64 0]),(61,.tuple #[.agg #[.int .i64 (kaV (criQ r n xa xb xc xd)/12-1955880000-3179),.int .i64 (kaV (criQ r n xa xb xc xd)%12+1),.int .i64 (n-fsD (criF r xa xb xc xd) n+1)],.int .i64 0]),(60,.agg #[.int .i64 xa,.int .i64 xb,.int .i64 xc,.int .i64 xd]),(59,.int .i64 n),(58,.int .i64 r),(9,.int .i64 n),(37,.bool false),(45,.bool false),(44,.bool false),(43,.int .i64 y),(42,.pointer (some ⟨g4,0,none⟩)),(41,.bool false),(40,.bool false),(39,.int .i64 y),(38,.pointer (some ⟨g4,0,none⟩)),(18,.bool false),(36,.bool false),(35,.bool false),(34,.int .i64 d),(33,.pointer (some ⟨g4,2,none⟩)),(32,.bool false),(31,.bool false),(30,.bool false),(29,.int .i64 d),(28,.pointer (some ⟨g4,2,none⟩)),(27,.bool false),(26,.bool false),(25,.bool false),(24,.int .i64 m),(23,.pointer (some ⟨g4,1,none⟩)),(22,.bool false),(21,.bool false),(20,.int .i64 m),(19,.pointer (some ⟨g4,1,none⟩)),(16,.bool false),(15,.int .i64 (ckE r xa xb xc xd)),(8,.int .i64 (ckE r xa xb xc xd)),(14,.int .i64 (ckE r xa xb xc xd)),(13,.agg #[.int .i64 xa,.int .i64 xb,.int .i64 xc,.int .i64 xd]),(12,.int .i64 r),(7,.int .i64 0),(5,.pointer (some ⟨g5,0,none⟩)),(4,.pointer (some ⟨g4,0,none⟩)),(0,.int .i64 r),(1,.agg #[.int .i64 y,.int .i64 m,.int .i64 d]),(2,.agg #[.int .i64 xa,.int .i64 xb,.int .i64 xc,.int .i64 xd])]) hF (r_assign ev_c) rfl rfl rfl rfl fun a hF=>?_
   refine E.opset (L':=[(7,.int .i64 3),(6,.int .i64 0),(70,.bool true),(69,.bool true),(68,.agg #[.int .i64 y,.int .i64 m,.int .i64 d]),(67,.agg #[.int .i64 (kaV (criQ r n xa xb xc xd)/12-1955880000-3179),.int .i64 (kaV (criQ r n xa xb xc xd)%12+1),.int .i64 (n-fsD (criF r xa xb xc xd) n+1)]),(66,.bool false),(65,.bool false),(64,.int .i64 0),(11,.int .i64 0),(10,.pointer (some ⟨g10,0,none⟩)),(63,.int .i64 0),(62,.agg #[.int .i64 (kaV (criQ r n xa xb xc xd)/12-1955880000-3179),.int .i64 (kaV (criQ r n xa xb xc xd)%12+1),.int .i64 (n-fsD (criF r xa xb xc xd) n+1)]),(57,.tuple #[.agg #[.int .i64 (kaV (criQ r n xa xb xc xd)/12-1955880000-3179),.int .i64 (kaV (criQ r n xa xb xc xd)%12+1),.int .i64 (n-fsD (criF r xa xb xc xd) n+1)],.int .i64 0]),(61,.tuple #[.agg #[.int .i64 (kaV (criQ r n xa xb xc xd)/12-1955880000-3179),.int .i64 (kaV (criQ r n xa xb xc xd)%12+1),.int .i64 (n-fsD (criF r xa xb xc xd) n+1)],.int .i64 0]),(60,.agg #[.int .i64 xa,.int .i64 xb,.int .i64 xc,.int .i64 xd]),(59,.int .i64 n),(58,.int .i64 r),(9,.int .i64 n),(37,.bool false),(45,.bool false),(44,.bool false),(43,.int .i64 y),(42,.pointer (some ⟨g4,0,none⟩)),(41,.bool false),(40,.bool false),(39,.int .i64 y),(38,.pointer (some ⟨g4,0,none⟩)),(18,.bool false),(36,.bool false),(35,.bool false),(34,.int .i64 d),(33,.pointer (some ⟨g4,2,none⟩)),(32,.bool false),(31,.bool false),(30,.bool false),(29,.int .i64 d),(28,.pointer (some ⟨g4,2,none⟩)),(27,.bool false),(26,.bool false),(25,.bool false),(24,.int .i64 m),(23,.pointer (some ⟨g4,1,none⟩)),(22,.bool false),(21,.bool false),(20,.int .i64 m),(19,.pointer (some ⟨g4,1,none⟩)),(16,.bool false),(15,.int .i64 (ckE r xa xb xc xd)),(8,.int .i64 (ckE r xa xb xc xd)),(14,.int .i64 (ckE r xa xb xc xd)),(13,.agg #[.int .i64 xa,.int .i64 xb,.int .i64 xc,.int .i64 xd]),(12,.int .i64 r),(5,.pointer (some ⟨g5,0,none⟩)),(4,.pointer (some ⟨g4,0,none⟩)),(0,.int .i64 r),(1,.agg #[.int .i64 y,.int .i64 m,.int .i64 d]),(2,.agg #[.int .i64 xa,.int .i64 xb,.int .i64 xc,.int .i64 xd])]) hF (r_assign ev_c) rfl rfl rfl rfl fun a hF=>?_
   refine E.nil ?_
   refine wp_ret ?_
   have bel:=st.bel
   refine bodyPost_ret (res_tmp2 Tryz.results25 (hF.at 1 rfl) (hF.at 0 rfl)) hF.dfr ?_
   have hfx:=so_3 (show n=soX (criF r xa xb xc xd) y m d from hn) (by omega) hc8
   exact⟨rv_int2 hfx.1 hfx.2,bel⟩
 ·refine S.callx st hF (rgc k24 (map3 (hF.at 2 rfl) (hF.at 1 rfl) (hF.at 0 rfl))) (soOfR_any r n xa xb xc xd _ (by omega) (by omega)) rfl rfl rfl rfl fun w9 a st hF=>?_
  refine E.opv hF (r_move (hF.at 0 rfl)) rfl rfl rfl rfl fun a hF=>?_
  refine E.opv hF (r_extract (v:= .agg #[.int .i64 0,.int .i64 0,.int .i64 0]) (hF.at 0 rfl) rfl) rfl rfl rfl rfl fun a hF=>?_
  refine E.opv hF (r_extract (v:= .int .i64 2) (hF.at 1 rfl) rfl) rfl rfl rfl rfl fun a hF=>?_
  refine S.new st hF 1 rfl ty_SOD rfl rfl rfl rfl rfl fun g10 w10 a st hF=>?_
  refine E.opv hF (r_assign (hF.at 1 rfl)) rfl rfl rfl rfl fun a hF=>?_
  refine E.nil ?_
  refine wp_seq ?_
  refine E.seq ?_
  refine E.opv hF (r_move (hF.at 0 rfl)) rfl rfl rfl rfl fun a hF=>?_
  refine E.opv hF (r_bin (hF.at 0 rfl) ev_c eg_scalar (bi_int (ic_neq (c:=true) (by decide)) (by simp))) rfl rfl rfl rfl fun a hF=>?_
  refine E.opv hF (r_move (hF.at 0 rfl)) rfl rfl rfl rfl fun a hF=>?_
  refine E.unwanted hF (wanted_by rfl rfl (hF.at 0 rfl) rfl) rfl rfl rfl fun a hF=>?_
  refine E.unwanted hF (wanted_by rfl rfl (hF.at 1 rfl) rfl) rfl rfl rfl fun a hF=>?_
  refine E.unwanted hF (wanted_by rfl rfl (hF.at 2 rfl) rfl) rfl rfl rfl fun a hF=>?_
  refine E.opv hF (r_pick_t (hF.at 3 rfl) ev_c) rfl rfl rfl rfl fun a hF=>?_
  refine E.nil ?_
  refine wp_cond_true (hF.at 0 rfl) ?_
  refine wp_seq ?_
  refine E.seq ?_
  refine E.opset (L':=[(6,.int .i64 0),(70,.bool true),(69,undef),(68,undef),(67,undef),(66,.bool true),(65,.bool true),(64,.int .i64 2),(11,.int .i64 2),(10,.pointer (some ⟨g10,0,none⟩)),(63,.int .i64 2),(62,.agg #[.int .i64 0,.int .i64 0,.int .i64 0]),(57,.tuple #[.agg #[.int .i64 0,.int .i64 0,.int .i64 0],.int .i64 2]),(61,.tuple #[.agg #[.int .i64 0,.int .i64 0,.int .i64 0],.int .i64 2]),(60,.agg #[.int .i64 xa,.int .i64 xb,.int .i64 xc,.int .i64 xd]),(59,.int .i64 n),(58,.int .i64 r),(9,.int .i64 n),(37,.bool false),(45,.bool false),(44,.bool false),(43,.int .i64 y),(42,.pointer (some ⟨g4,0,none⟩)),(41,.bool false),(40,.bool false),(39,.int .i64 y),(38,.pointer (some ⟨g4,0,none⟩)),(18,.bool false),(36,.bool false),(35,.bool false),(34,.int .i64 d),(33,.pointer (some ⟨g4,2,none⟩)),(32,.bool false),(31,.bool false),(30,.bool false),(29,.int .i64 d),(28,.pointer (some ⟨g4,2,none⟩)),(27,.bool false),(26,.bool false),(25,.bool false),(24,.int .i64 m),(23,.pointer (some ⟨g4,1,none⟩)),(22,.bool false),(21,.bool false),(20,.int .i64 m),(19,.pointer (some ⟨g4,1,none⟩)),(16,.bool false),(15,.int .i64 (ckE r xa xb xc xd)),(8,.int .i64 (ckE r xa xb xc xd)),(14,.int .i64 (ckE r xa xb xc xd)),(13,.agg #[.int .i64 xa,.int .i64 xb,.int .i64 xc,.int .i64 xd]),(12,.int .i64 r),(7,.int .i64 0),(5,.pointer (some ⟨g5,0,none⟩)),(4,.pointer (some ⟨g4,0,none⟩)),(0,.int .i64 r),(1,.agg #[.int .i64 y,.int .i64 m,.int .i64 d]),(2,.agg #[.int .i64 xa,.int .i64 xb,.int .i64 xc,.int .i64 xd])]) hF (r_assign ev_c) rfl rfl rfl rfl fun a hF=>?_
  refine E.opset (L':=[(7,.int .i64 3),(6,.int .i64 0),(70,.bool true),(69,undef),(68,undef),(67,undef),(66,.bool true),(65,.bool true),(64,.int .i64 2),(11,.int .i64 2),(10,.pointer (some ⟨g10,0,none⟩)),(63,.int .i64 2),(62,.agg #[.int .i64 0,.int .i64 0,.int .i64 0]),(57,.tuple #[.agg #[.int .i64 0,.int .i64 0,.int .i64 0],.int .i64 2]),(61,.tuple #[.agg #[.int .i64 0,.int .i64 0,.int .i64 0],.int .i64 2]),(60,.agg #[.int .i64 xa,.int .i64 xb,.int .i64 xc,.int .i64 xd]),(59,.int .i64 n),(58,.int .i64 r),(9,.int .i64 n),(37,.bool false),(45,.bool false),(44,.bool false),(43,.int .i64 y),(42,.pointer (some ⟨g4,0,none⟩)),(41,.bool false),(40,.bool false),(39,.int .i64 y),(38,.pointer (some ⟨g4,0,none⟩)),(18,.bool false),(36,.bool false),(35,.bool false),(34,.int .i64 d),(33,.pointer (some ⟨g4,2,none⟩)),(32,.bool false),(31,.bool false),(30,.bool false),(29,.int .i64 d),(28,.pointer (some ⟨g4,2,none⟩)),(27,.bool false),(26,.bool false),(25,.bool false),(24,.int .i64 m),(23,.pointer (some ⟨g4,1,none⟩)),(22,.bool false),(21,.bool false),(20,.int .i64 m),(19,.pointer (some ⟨g4,1,none⟩)),(16,.bool false),(15,.int .i64 (ckE r xa xb xc xd)),(8,.int .i64 (ckE r xa xb xc xd)),(14,.int .i64 (ckE r xa xb xc xd)),(13,.agg #[.int .i64 xa,.int .i64 xb,.int .i64 xc,.int .i64 xd]),(12,.int .i64 r),(5,.pointer (some ⟨g5,0,none⟩)),(4,.pointer (some ⟨g4,0,none⟩)),(0,.int .i64 r),(1,.agg #[.int .i64 y,.int .i64 m,.int .i64 d]),(2,.agg #[.int .i64 xa,.int .i64 xb,.int .i64 xc,.int .i64 xd])]) hF (r_assign ev_c) rfl rfl rfl rfl fun a hF=>?_
  refine E.nil ?_
  refine wp_ret ?_
  have bel:=st.bel
  refine bodyPost_ret (res_tmp2 Tryz.results25 (hF.at 1 rfl) (hF.at 0 rfl)) hF.dfr ?_
  have hfx:=so_far (show n=soX (criF r xa xb xc xd) y m d from hn) (by omega)
  exact⟨rv_int2 hfx.1 hfx.2,bel⟩
theorem soFixT_any (r y m d xa xb xc xd n e:Int) (w:World) (hT:TabD w) (hok:PlOk xa xb xc xd) (hr0:0≤r) (hr1:r≤3) (hm0:1≤m) (hm1:m≤12) (hd0:1≤d) (hd1:d≤32) (hy0: -9000≤y) (hy1:y≤9000) (h1:soN (criF r xa xb xc xd) y m d=n) (h2:soE (criF r xa xb xc xd) y m d=e):
 Calls Tryz.prog 25 #[.int .i64 r,.agg #[.int .i64 y,.int .i64 m,.int .i64 d],.agg #[.int .i64 xa,.int .i64 xb,.int .i64 xc,.int .i64 xd]] w (ValPost w (.tuple #[.int .i64 n,.int .i64 e])):=by
 subst h1 h2
 exact soFix_any r y m d xa xb xc xd w hT hok hr0 hr1 hm0 hm1 hd0 hd1 hy0 hy1
end Go.Proofs.YtnljadejcfgmaaaGreatDoor
