import Derived.Test.YtdbiegfmgabicaaGreatDoorKA35
import Derived.Test.YtdbiegfmgabicaaGreatDoorKA38
namespace Go.Proofs.YtdbiegfmgabicaaGreatDoor
open Go.RowKit
set_option maxRecDepth 100000
set_option linter.unusedVariables false
set_option maxHeartbeats 8000000
theorem GA:(Tryz.f113.name == "runtime.NumGoroutine")=false∧Tryz.f113.body.isNone=false:=⟨by decide+kernel,by kernel_rfl⟩
theorem nR (v1:Value) (qt:Rat) (k:Nat) (w:World) (hT:bG w) (h1:Rq w v1 qt) (hl:ah qt k) (hk:k≤100):Calls Tryz.prog 62 #[v1] w (aG w (.int .i64 (kaV qt%12))):=by
 rw[←tb]
 exact ud v1 qt k w hT h1 hl hk
theorem ss (r n:Int) (xa xb xc xd:Int) (w:World) (hT:bG w) (hok:cf xa xb xc xd) (hn0: -3900000≤n) (hn1:n≤3900000):
 Calls Tryz.prog 60 #[.int .i64 r,.int .i64 n,.agg #[.int .i64 xa,.int .i64 xb,.int .i64 xc,.int .i64 xd]] w (bl w (cW r n xa xb xc xd)):=by
 have hok1:=hok.b0
 have hok2:=hok.b1
 have hok3:=hok.d0
 have hok4:=hok.d1
 have st:=St.start w
 refine go3 (nt:=40) Tryz.func60 rfl rfl rfl fun a hF=>?_
 refine wq ?_
 refine bx st hF 2 rfl rfl fun g5 w1 a st hF=>?_
 refine S.alloc st hF aa rfl rfl fun g6 w2 a st hF=>?_
 refine ns ?_
 refine wq ?_
 refine oM hF 2 rfl rfl fun a hF=>?_
 refine E.nil ?_
 refine wp_block ?_
 refine wq ?_
 by_cases hc3:r=0
 ·refine oT hF 0 (a6 (c:=true) (aL hc3)) rfl rfl fun a hF=>oA hF 0 rfl rfl fun a hF=>?_
  refine E.nil ?_
  refine wp_cond_true hF.o ?_
  refine wq ?_
  refine oM hF 6 rfl rfl fun a hF=>oV hF (aq hF.o ar ab (bj (by omega) (by omega))) rfl fun a hF=>oL hF st 6 1 aZ rfl rfl rfl rfl fun a hF=>?_
  refine S.ck st hF (rgc k19 (aI hF.p hF.o)) (aB (gD (n+1) xa xb xc xd _ (hT.below st.bel) (by first|assumption|constructor<;>omega) (by omega) (by omega)) (gj (by first|assumption|constructor<;>omega) (by omega) (by omega))) Rl.cl rfl fun vv5 w4 a st hF=>?_
  obtain⟨r7,rfl⟩:=Rq.fo (st.f 0 rfl).1
  refine so st hF 0 7 0 aa rfl rfl rfl rfl fun w8 a st hF=>?_
  refine nr ?_
  refine rs Tryz.results60 st hF 7 0 aa rfl rfl rfl ?_
  have bel:=st.bel
  exact⟨_,rfl,Rq.castM (st.f 0 rfl).1 (GQ hc3),bel⟩
 ·refine oT hF 0 (a6 (c:=false) (aV hc3)) rfl rfl fun a hF=>oA hF 0 rfl rfl fun a hF=>?_
  refine E.nil ?_
  refine wp_cond_false hF.o ?_
  refine wq ?_
  by_cases hc9:r=1
  ·refine oT hF 2 (a6 (c:=true) (aL hc9)) rfl rfl fun a hF=>oA hF 0 rfl rfl fun a hF=>?_
   refine E.nil ?_
   refine wp_cond_true hF.o ?_
   refine wq ?_
   refine oM hF 8 rfl rfl fun a hF=>oL hF st 7 1 aZ rfl rfl rfl rfl fun a hF=>?_
   refine S.ck st hF (rgc LP (aI hF.p hF.o)) (aB (nZ n xa xb xc xd _ (hT.below st.bel) (by first|assumption|constructor<;>omega) (by omega) (by omega)) (nD (by first|assumption|constructor<;>omega) (by omega) (by omega))) Rl.cl rfl fun vv11 w10 a st hF=>?_
   obtain⟨r13,rfl⟩:=Rq.fo (st.f 0 rfl).1
   refine so st hF 0 8 0 aa rfl rfl rfl rfl fun w14 a st hF=>?_
   refine nr ?_
   refine rs Tryz.results60 st hF 8 0 aa rfl rfl rfl ?_
   have bel:=st.bel
   exact⟨_,rfl,Rq.castM (st.f 0 rfl).1 (Ga hc9),bel⟩
  ·refine oT hF 2 (a6 (c:=false) (aV hc9)) rfl rfl fun a hF=>oA hF 0 rfl rfl fun a hF=>?_
   refine E.nil ?_
   refine wp_cond_false hF.o ?_
   refine wq ?_
   by_cases hc15:r=2
   ·refine oT hF 4 (a6 (c:=true) (aL hc15)) rfl rfl fun a hF=>oA hF 0 rfl rfl fun a hF=>?_
    refine E.nil ?_
    refine wp_cond_true hF.o ?_
    refine wp_seq ?_
    refine E.rga 8 aF hF [23,24,25,26,27,28,7,8] [_,_,_,_,_,_,kn w2 [.bool false,.slice none 0 0,.slice none 0 0],kn w2 [.bool false,.slice none 0 0,.slice none 0 0]] [6,7] ⟨fun _ _ ⟨g,e,_,o⟩=>⟨g,e,o.lt⟩,⟨fun _ _ ⟨g,e,_,o⟩=>⟨g,e,o.lt⟩,trivial⟩⟩ (by decide+kernel) rfl rfl rfl ⟨rm 10 rfl,rb st aZ 8 1 rfl,ck st k19 rfl fun _ s=>aB (gD n xa xb xc xd _ (hT.below s.bel) (by first|assumption|constructor<;>omega) (by omega) (by omega)) (gj (by first|assumption|constructor<;>omega) (by omega) (by omega)),rm 10 rfl,rb st aZ 8 1 rfl,ck st LP rfl fun _ s=>aB (nZ n xa xb xc xd _ (hT.below s.bel) (by first|assumption|constructor<;>omega) (by omega) (by omega)) (nD (by first|assumption|constructor<;>omega) (by omega) (by omega)),ra aa rfl rfl,ra aa rfl rfl,trivial⟩ ?_
    intro a w16 hF bb hall hne
    have s0:=st
    replace st:=st.to bb
    obtain⟨vv17,hF,st⟩:=rS hall hF st 2 rfl rfl Rl.cl
    obtain⟨r19,rfl⟩:=Rq.fo (st.f 0 rfl).1
    obtain⟨vv20,hF,st⟩:=rS hall hF st 5 rfl rfl Rl.cl
    obtain⟨r22,rfl⟩:=Rq.fo (st.f 0 rfl).1
    obtain⟨_,e7,g7,rfl,ge7,o7⟩:=sS hall 6 7 rfl rfl
    replace st:=st.push o7.blk (Nat.le_trans s0.bel.size ge7) (s0.ne ge7)
    clear o7
    replace hF:=hF.add e7
    obtain⟨_,e8,g8,rfl,ge8,o8⟩:=sS hall 7 8 rfl rfl
    replace st:=st.push o8.blk (Nat.le_trans s0.bel.size ge8) (mv (fun(e:g7=g8)=>hne 6 7 7 8 rfl rfl (by decide) rfl rfl (by rw[e7,e8,e])) (s0.ne ge8))
    clear o8
    replace hF:=hF.add e8
    clear hall bb hne s0
    refine so st hF 1 1 3 aa rfl rfl rfl rfl fun w23 a st hF=>?_
    refine so st hF 0 0 2 aa rfl rfl rfl rfl fun w24 a st hF=>?_
    refine ns ?_
    refine E.rg 8 aF hF [29,30,31,32,33,34,35,36] [_,_,_,_,_,_,_,_] (by decide+kernel) rfl rfl rfl ⟨rb st aa 1 1 rfl,rb st aa 0 0 rfl,rb st aa 1 1 rfl,ck st k27 rfl fun _ s=>eQ (s.f 0 rfl) (s.f 1 rfl),ck st k48 rfl fun _ s=>aB (bz (3) (5) _ (by decide) (by decide) (by decide) (by decide)) (ah.up (aK (ao (by decide) (by decide)) (ao (by decide) (by decide))) 2 (by decide)),ck st k82 rfl fun _ s _ x32 _ x33=>de x32 x33,ck st k50 rfl fun _ s _ x34=>lT (s.f 1 rfl) x34,ck st k42 rfl fun _ s _ x35=>aB (lU _ ((bX (dN n xa xb xc xd))+(((bX (jl n xa xb xc xd))-(bX (dN n xa xb xc xd)))*(((3:Int):Rat)/((5:Int):Rat)))) 13 _ x35.1 x35.2 (by omega)) (tM x35.2),trivial⟩ ?_
    intro a w25 hF bb hall
    replace st:=st.to bb
    obtain⟨vv26,hF,st⟩:=rS hall hF st 7 rfl rfl Rl.cl
    obtain⟨r28,rfl⟩:=Rq.fo (st.f 0 rfl).1
    clear hall bb
    refine so st hF 2 12 0 aa rfl rfl rfl rfl fun w29 a st hF=>?_
    refine nr ?_
    refine rs Tryz.results60 st hF 12 2 aa rfl rfl rfl ?_
    have bel:=st.bel
    exact⟨_,rfl,Rq.castM (st.f 0 rfl).1 (GS hc15 (NF _ _)),bel⟩
   ·refine oT hF 4 (a6 (c:=false) (aV hc15)) rfl rfl fun a hF=>oA hF 0 rfl rfl fun a hF=>?_
    refine E.nil ?_
    refine wp_cond_false hF.o ?_
    refine wp_skip ?_
    refine E.blk ?_
    refine E.norm ?_
    refine wq ?_
    refine oM hF 10 rfl rfl fun a hF=>oV hF (aq hF.o ar ab (bj (by omega) (by omega))) rfl fun a hF=>?_
    refine S.ck st hF (rgc k30 (aD hF.o)) (aB (a7 (n+1) _ (by omega) (by omega)) (aW (ao (by omega) (by omega)) (by omega))) Rl.cl rfl fun vv31 w30 a st hF=>?_
    obtain⟨r33,rfl⟩:=Rq.fo (st.f 0 rfl).1
    refine so st hF 0 10 0 aa rfl rfl rfl rfl fun w34 a st hF=>?_
    refine nr ?_
    refine rs Tryz.results60 st hF 10 0 aa rfl rfl rfl ?_
    have bel:=st.bel
    exact⟨_,rfl,Rq.castM (st.f 0 rfl).1 (Gr hc3 hc9 hc15),bel⟩
theorem BH (v:Value) (z n:Int) (w:World) (h:Wz w v z) (e:z=n) (b0: -9223372036854775808≤n) (b1:n≤9223372036854775807):Calls Tryz.prog 111 #[v] w (aG w (.tuple #[.int .i64 n,.bool true])):=by
 subst e
 have h':=yM v z w h
 rw[lj b0 b1,kv b0 b1] at h'
 exact h'
theorem iz (v1:Value) (qt:Rat) (k:Nat) (w:World) (hT:bG w) (h1:Rq w v1 qt) (hl:ah qt k) (hk:k≤100) (hk0: -1000000000000≤kaV qt) (hk1:kaV qt≤1000000000000):
 Calls Tryz.prog 61 #[v1] w (aG w (.int .i64 (kaV qt/12-1955880000))):=by
 have st:=St.start w
 refine go1 (nt:=23) Tryz.func61 rfl rfl rfl fun a hF=>?_
 refine wq ?_
 obtain⟨r2,rfl⟩:=Rq.fo h1
 refine bx st hF 0 rfl rfl fun g1 w1 a st hF=>?_
 refine oC hF rfl fun a hF=>ns ?_
 refine E.rga 6 aF hF [6,7,8,9,10,3] [_,_,_,_,_,kn w1 [.bool false,.slice none 0 0,.slice none 0 0]] [5] ⟨fun _ _ ⟨g,e,_,o⟩=>⟨g,e,o.lt⟩,trivial⟩ (by decide+kernel) rfl rfl rfl ⟨rb st aa 1 0 rfl,ck st k30 rfl fun _ s=>aB (a7 ((-1132959)) _ (by decide) (by decide)) (aW (ao (by decide) (by decide)) (by omega)),ck st k27 rfl fun _ s _ x7=>eQ ⟨(h1.below s.bel),hl⟩ x7,ck st wK rfl fun _ s=>mh,ck st nl rfl fun _ s _ x8 _ x9=>nm x8 x9,ra aa rfl rfl,trivial⟩ ?_
 intro a w3 hF bb hall hne
 have s0:=st
 replace st:=st.to bb
 obtain⟨vv4,hF,st⟩:=rS hall hF st 4 rfl rfl Rl.cl
 obtain⟨r6,rfl⟩:=Rq.fo (st.f 0 rfl).1
 obtain⟨_,e3,g3,rfl,ge3,o3⟩:=sS hall 5 3 rfl rfl
 replace st:=st.push o3.blk (Nat.le_trans s0.bel.size ge3) (s0.ne ge3)
 clear o3
 replace hF:=hF.add e3
 clear hall bb hne s0
 refine so st hF 0 0 1 aa rfl rfl rfl rfl fun w7 a st hF=>?_
 refine ns ?_
 refine E.rg 13 aF hF [12,13,14,15,16,17,18,19,11,20,21,4,5] [_,_,_,_,_,_,_,_,.ex (.tuple #[.int .i64 (kaV qt/12-1955880000),.bool true]),.ex (.int .i64 (kaV qt/12-1955880000)),.ex (.bool true),.ex (.int .i64 (kaV qt/12-1955880000)),.ex (.bool true)] (by decide+kernel) rfl rfl rfl ⟨rb st aa 0 0 rfl,rb st aa 3 1 rfl,ck st Ar rfl fun _ s=>C8 (hT.below s.bel) ⟨(h1.below s.bel),hl⟩,ck st k48 rfl fun _ s=>aB (bz (1) (360) _ (by decide) (by decide) (by decide) (by decide)) (ah.up (aK (ao (by decide) (by decide)) (ao (by decide) (by decide))) 2 (by decide)),ck st k82 rfl fun _ s _ x14 _ x15=>de x14 x15,ck st k27 rfl fun _ s _ x16=>eQ (s.f 0 rfl) x16,ck st N8 rfl fun _ s _ x17=>d7 (zY _ ((((qt)-((((-1132959):Int):Rat)))/(pyr))-((dz (qt))*(((1:Int):Rat)/((360:Int):Rat)))) (((k+2+1)+2)+((3*k+100)+2)+1) _ x17.1 x17.2 (by omega)) (Dq x17.2),ck st J2 rfl fun _ s _ x18=>a9 (BH _ (Rat.floor (((((qt)-((((-1132959):Int):Rat)))/(pyr))-((dz (qt))*(((1:Int):Rat)/((360:Int):Rat))))+((1:Int):Rat)/((2:Int):Rat))) (kaV qt/12-1955880000) _ (Wc.wz x18.1) (BW qt) (by omega) (by omega)),(by intro a' w' hF' hb hd;have e19:=tE hd 0 rfl;exact dv0 (aN e19) rfl rfl rfl),(by intro a' w' hF' hb hd;have e11:=tE hd 0 rfl;exact dv0 (aR (v:= .int .i64 (kaV qt/12-1955880000)) e11 rfl) rfl rfl rfl),(by intro a' w' hF' hb hd;have e11:=tE hd 0 rfl;exact dv0 (aR (v:= .bool true) e11 rfl) rfl rfl rfl),(by intro a' w' hF' hb hd;have e20:=tE hd 0 rfl;exact dv0 (a8 e20) rfl rfl rfl),(by intro a' w' hF' hb hd;have e21:=tE hd 0 rfl;exact dv0 (a8 e21) rfl rfl rfl),trivial⟩ ?_
 intro a w8 hF bb hall
 replace st:=st.to bb
 replace hF:=rE hall hF 11 rfl rfl
 clear hall bb
 refine nq ?_
 refine oM hF 0 rfl rfl fun a hF=>oE hF 0 rfl rfl fun a hF=>nr ?_
 have bel:=st.bel
 refine rt Tryz.results61 hF 0 rfl ?_
 exact⟨rfl,bel⟩
theorem B7 (r xa xb xc xd:Int) (w:World):
 Calls Tryz.prog 59 #[.int .i64 r,.agg #[.int .i64 xa,.int .i64 xb,.int .i64 xc,.int .i64 xd]] w (aG w (.int .i64 (ckE r xa xb xc xd))):=by
 have st:=St.start w
 refine go2 (nt:=13) Tryz.func59 rfl rfl rfl fun a hF=>?_
 refine wq ?_
 refine bx st hF 1 rfl rfl fun g3 w1 a st hF=>?_
 refine oC hF rfl fun a hF=>ns ?_
 refine wq ?_
 refine oM hF 2 rfl rfl fun a hF=>?_
 by_cases hc2:r<0
 ·refine oT hF 0 (bM (c:=true) (aL hc2)) rfl rfl fun a hF=>oM hF 0 rfl rfl fun a hF=>nu hF 0 rfl rfl rfl fun a hF=>nu hF 1 rfl rfl rfl fun a hF=>oV hF (aH hF.q ar) rfl fun a hF=>?_
  refine E.nil ?_
  refine wp_cond_true hF.o ?_
  refine wq ?_
  refine oS hF (a8 ar) rfl fun a hF=>nr ?_
  have bel:=st.bel
  refine rt Tryz.results59 hF 0 rfl ?_
  refine⟨bS ?_,bel⟩
  unfold ckE
  rw[if_neg (by omega)]
 ·refine oT hF 0 (bM (c:=false) (aV hc2)) rfl rfl fun a hF=>oM hF 0 rfl rfl fun a hF=>og hF (aN (hF.at 5 rfl)) 0 rfl rfl rfl fun a hF=>?_
  by_cases hc3:4≤r
  ·refine og hF (aq hF.o ar ab (aU (cJ (c:=true) (aL hc3)) (by simp))) 1 rfl rfl rfl fun a hF=>oV hF (bp hF.q hF.o) rfl fun a hF=>?_
   refine E.nil ?_
   refine wp_cond_true hF.o ?_
   refine wq ?_
   refine oS hF (a8 ar) rfl fun a hF=>nr ?_
   have bel:=st.bel
   refine rt Tryz.results59 hF 0 rfl ?_
   refine⟨bS ?_,bel⟩
   unfold ckE
   rw[if_neg (by omega)]
  ·refine og hF (aq hF.o ar ab (aU (cJ (c:=false) (aV hc3)) (by simp))) 1 rfl rfl rfl fun a hF=>oV hF (bp hF.q hF.o) rfl fun a hF=>?_
   refine E.nil ?_
   refine wp_cond_false hF.o ?_
   refine wp_skip ?_
   refine E.norm ?_
   refine wq ?_
   refine oL hF st 7 0 aZ rfl rfl rfl rfl fun a hF=>?_
   refine cX st hF (rgc k23 (aD hF.o)) (gl xa xb xc xd _) rfl fun w4 a st hF=>?_
   refine oE hF 0 rfl rfl fun a hF=>nr ?_
   have bel:=st.bel
   refine rt Tryz.results59 hF 0 rfl ?_
   refine⟨bS ?_,bel⟩
   unfold ckE
   rw[if_pos (by omega)]
theorem C9 (v1:Value) (qt:Rat) (k:Nat) (w:World) (hT:bG w) (h1:Rq w v1 qt) (hl:ah qt k) (hk:k≤100) (hk0: -1000000000000≤kaV qt) (hk1:kaV qt≤1000000000000):
 Calls Tryz.prog 114 #[v1] w (aG w (.int .i64 (kaV qt-23470560000))):=by
 have st:=St.start w
 refine go1 (nt:=9) Tryz.func114 rfl rfl rfl fun a hF=>?_
 refine wq ?_
 obtain⟨r2,rfl⟩:=Rq.fo h1
 refine bx st hF 0 rfl rfl fun g1 w1 a st hF=>?_
 refine oC hF rfl fun a hF=>ns ?_
 refine E.rg 6 aF hF [3,4,5,6,7,8] [_,_,.ex (.int .i64 (12*(kaV (qt)/12-1955880000))),_,_,.ex (.int .i64 ((12*(kaV (qt)/12-1955880000))+(kaV (qt)%12)))] (by decide+kernel) rfl rfl rfl ⟨rb st aa 1 0 rfl,ck st k61 rfl fun _ s=>a9 (iz _ (qt) k _ (hT.below s.bel) (h1.below s.bel) hl (by omega) (by omega) (by omega)),(by intro a' w' hF' hb hd;have e4:=tE hd 0 rfl;exact dv0 (aq ar e4 ab (eL (by omega) (by omega))) rfl rfl rfl),rb st aa 1 0 rfl,ck st k62 rfl fun _ s=>a9 (nR _ (qt) k _ (hT.below s.bel) (h1.below s.bel) hl (by omega)),(by intro a' w' hF' hb hd;have e5:=tE hd 0 rfl;have e7:=tE hd 1 rfl;exact dv0 (aq e5 e7 ab (bj (by omega) (by omega))) rfl rfl rfl),trivial⟩ ?_
 intro a w3 hF bb hall
 replace st:=st.to bb
 replace hF:=rE hall hF 5 rfl rfl
 clear hall bb
 refine oE hF 0 rfl rfl fun a hF=>nr ?_
 have bel:=st.bel
 refine rt Tryz.results114 hF 0 rfl ?_
 refine⟨bS ?_,bel⟩
 omega
theorem vH (n:Int) (w:World) (hn0: -3000000≤n) (hn1:n≤3000000):
 Calls Tryz.prog 33 #[.int .i64 n] w (aG w (.bool true)):=by
 have st:=St.start w
 refine go1 (nt:=9) Tryz.func33 rfl rfl rfl fun a hF=>?_
 refine wq ?_
 refine oC hF rfl fun a hF=>nq ?_
 refine oM hF 1 rfl rfl fun a hF=>?_
 by_cases hc1:(-3000000)≤n
 ·refine oT hF 0 (cJ (c:=true) (aL hc1)) rfl rfl fun a hF=>oM hF 0 rfl rfl fun a hF=>og hF (aN (hF.at 4 rfl)) 0 rfl rfl rfl fun a hF=>?_
  by_cases hc2:n≤3000000
  ·refine og hF (aq hF.o ar ab (aU (cj (c:=true) (aL hc2)) (by simp))) 1 rfl rfl rfl fun a hF=>oV hF (aH hF.q hF.o) rfl fun a hF=>oE hF 0 rfl rfl fun a hF=>nr ?_
   have bel:=st.bel
   refine rt Tryz.results33 hF 0 rfl ?_
   exact⟨rfl,bel⟩
  ·(exfalso;omega)
 ·(exfalso;omega)
theorem Bn (n:Int) (w:World) (hx:¬(-3000000≤n∧n≤3000000)):
 Calls Tryz.prog 33 #[.int .i64 n] w (aG w (.bool false)):=by
 have st:=St.start w
 refine go1 (nt:=9) Tryz.func33 rfl rfl rfl fun a hF=>?_
 refine wq ?_
 refine oC hF rfl fun a hF=>nq ?_
 refine oM hF 1 rfl rfl fun a hF=>?_
 by_cases hc1:(-3000000)≤n
 ·refine oT hF 0 (cJ (c:=true) (aL hc1)) rfl rfl fun a hF=>oM hF 0 rfl rfl fun a hF=>og hF (aN (hF.at 4 rfl)) 0 rfl rfl rfl fun a hF=>?_
  by_cases hc2:n≤3000000
  ·(exfalso;omega)
  ·refine og hF (aq hF.o ar ab (aU (cj (c:=false) (aV hc2)) (by simp))) 1 rfl rfl rfl fun a hF=>oV hF (aH hF.q hF.o) rfl fun a hF=>oE hF 0 rfl rfl fun a hF=>nr ?_
   have bel:=st.bel
   refine rt Tryz.results33 hF 0 rfl ?_
   exact⟨rfl,bel⟩
 ·refine oT hF 0 (cJ (c:=false) (aV hc1)) rfl rfl fun a hF=>oM hF 0 rfl rfl fun a hF=>nu hF 0 rfl rfl rfl fun a hF=>nu hF 1 rfl rfl rfl fun a hF=>oV hF (bp hF.q ar) rfl fun a hF=>oE hF 0 rfl rfl fun a hF=>nr ?_
  have bel:=st.bel
  refine rt Tryz.results33 hF 0 rfl ?_
  exact⟨rfl,bel⟩
theorem CF (r bg sg xa xb xc xd h:Int) (g0 g1 g2 g3:Nat) (w:World) (hT:bG w) (hok:cf xa xb xc xd) (hb0: -3890000≤bg) (hb1:bg≤3890000) (hh0:0≤h) (hh1:h<15) (h0:Blk w g0 [.int .i64 r]) (h1:Blk w g1 [.int .i64 bg]) (h2:Blk w g2 [.int .i64 xa,.int .i64 xb,.int .i64 xc,.int .i64 xd]) (h3:Blk w g3 [.int .i64 sg]):
 Calls Tryz.prog 113 #[.int .i64 h,.pointer (some ⟨g0,0,none⟩),.pointer (some ⟨g1,0,none⟩),.pointer (some ⟨g2,0,none⟩),.pointer (some ⟨g3,0,none⟩)] w (aG w (.bool (decide (sg≤kaV (cW r (bg+h) xa xb xc xd)-23470560000)))):=by
 have hkc:=G0 r (n:=bg+h) hok (by omega) (by omega)
 have st:=St.start w
 refine E.enter (nt:=16) (L:=[(0,.int .i64 h),(1,.pointer (some ⟨g0,0,none⟩)),(2,.pointer (some ⟨g1,0,none⟩)),(3,.pointer (some ⟨g2,0,none⟩)),(4,.pointer (some ⟨g3,0,none⟩))]) Tryz.func113 rfl rfl rfl (aP (i:=0) rfl (aP (i:=1) rfl (aP (i:=2) rfl (aP (i:=3) rfl (aP (i:=4) rfl dP))))) ?_
 intro a hF
 refine wq ?_
 refine oC hF rfl fun a hF=>ns ?_
 refine E.rg 9 aF hF [7,8,9,10,11,12,13,14,15] [_,_,_,.ex (.int .i64 (bg+h)),_,_,_,_,.ex (.bool (decide (sg≤kaV (cW r (bg+h) xa xb xc xd)-23470560000)))] (by decide+kernel) rfl rfl rfl ⟨rd rfl rfl fun a' w' hF' hb=>(au (hF'.at 2 rfl) (bA (v:= .int .i64 r) (h0.below (aC st.bel hb)) rfl)),rd rfl rfl fun a' w' hF' hb=>(au (hF'.at 3 rfl) (bQ (v:= .int .i64 bg) (h1.below (aC st.bel hb)) rfl)),rm 1 rfl,(by intro a' w' hF' hb hd;have e8:=tE hd 0 rfl;have e9:=tE hd 1 rfl;exact dv0 (aq e8 e9 ab (bj (by omega) (by omega))) rfl rfl rfl),rd rfl rfl fun a' w' hF' hb=>(au (hF'.at 4 rfl) (Jh (vs:=[.int .i64 xa,.int .i64 xb,.int .i64 xc,.int .i64 xd]) (h2.below (aC st.bel hb)) rfl rfl)),ck st k60 rfl fun _ s=>aB (ss r (bg+h) xa xb xc xd _ (hT.below s.bel) (by first|assumption|constructor<;>omega) (by omega) (by omega)) (uF (by first|assumption|constructor<;>omega) (by omega) (by omega)),ck st NL rfl fun _ s _ x12=>a9 (C9 _ (cW r (bg+h) xa xb xc xd) 3 _ (hT.below s.bel) x12.1 x12.2 (by omega) (by omega) (by omega)),rd rfl rfl fun a' w' hF' hb=>(au (hF'.at 5 rfl) (bQ (v:= .int .i64 sg) (h3.below (aC st.bel hb)) rfl)),(by intro a' w' hF' hb hd;have e13:=tE hd 0 rfl;have e14:=tE hd 1 rfl;exact dv0 (aq e13 e14 ab (aU (cJ (c:=decide (sg≤kaV (cW r (bg+h) xa xb xc xd)-23470560000)) rfl) (by simp))) rfl rfl rfl),trivial⟩ ?_
 intro a w1 hF bb hall
 replace st:=st.to bb
 replace hF:=rE hall hF 8 rfl rfl
 clear hall bb
 refine oE hF 0 rfl rfl fun a hF=>nr ?_
 have bel:=st.bel
 refine rt Tryz.results113 hF 0 rfl ?_
 exact⟨rfl,bel⟩
theorem Bv (r bg sg xa xb xc xd:Int) (g0 g1 g2 g3:Nat) (w:World) (hT:bG w) (hok:cf xa xb xc xd) (hb0: -3890000≤bg) (hb1:bg≤3890000) (h0:Blk w g0 [.int .i64 r]) (h1:Blk w g1 [.int .i64 bg]) (h2:Blk w g2 [.int .i64 xa,.int .i64 xb,.int .i64 xc,.int .i64 xd]) (h3:Blk w g3 [.int .i64 sg]):u6 w 113 #[.pointer (some ⟨g0,0,none⟩),.pointer (some ⟨g1,0,none⟩),.pointer (some ⟨g2,0,none⟩),.pointer (some ⟨g3,0,none⟩)] 15 (fun h=>decide (sg≤kaV (cW r (bg+h) xa xb xc xd)-23470560000)):=
 ⟨⟨_,Tryz.func113,GA.1,GA.2⟩,fun h w' hb a b=>CF r bg sg xa xb xc xd h g0 g1 g2 g3 w' (hT.below hb) hok hb0 hb1 a b (h0.below hb) (h1.below hb) (h2.below hb) (h3.below hb)⟩
theorem Ce (v1:Value) (qt:Rat) (k:Nat) (n:Int) (w:World) (h1:Rq w v1 qt) (hl:ah qt k) (hk:k≤10000) (e:qt.floor=n) (h0: -9223372036854775808≤n) (h3:n≤9223372036854775807):Calls Tryz.prog 86 #[v1] w (aG w (.tuple #[.int .i64 n,.bool true])):=by
 subst e
 have h:=iT v1 _ k w h1 hl hk
 rwa[lj h0 h3,kv h0 h3] at h
theorem xy (r y m:Int) (xa xb xc xd:Int) (w:World) (hT:bG w) (hok:cf xa xb xc xd) (hy0: -20000≤y) (hy1:y≤20000) (hm0:1≤m) (hm1:m≤12) (hf0: -3800000≤foD (jf r xa xb xc xd) y m) (hf1:foD (jf r xa xb xc xd) y m≤3800000):
 Calls Tryz.prog 63 #[.int .i64 r,.int .i64 y,.int .i64 m,.agg #[.int .i64 xa,.int .i64 xb,.int .i64 xc,.int .i64 xd]] w (aG w (.int .i64 (foD (jf r xa xb xc xd) y m))):=by
 have hfo:=Lm (uA r hok) (ko r hok) y m
 obtain⟨fe,hfe⟩:∃z:Int,(fR (12*(y+3179)+(m-1))).floor =z:=⟨_,rfl⟩
 rw[hfe] at hfo
 have st:=St.start w
 refine E.enter (nt:=39) (L:=[(0,.int .i64 r),(1,.int .i64 y),(2,.int .i64 m),(3,.agg #[.int .i64 xa,.int .i64 xb,.int .i64 xc,.int .i64 xd])]) Tryz.func63 rfl rfl rfl (aP (i:=0) rfl (aP (i:=1) rfl (aP (i:=2) rfl (aP (i:=3) rfl dP)))) ?_
 intro a hF
 refine wq ?_
 refine S.boxI st hF hF.o rfl rfl fun g4 w1 a st hF=>?_
 refine bx st hF 4 rfl rfl fun g7 w2 a st hF=>?_
 refine oC hF rfl fun a hF=>nq ?_
 refine oM hF 4 rfl rfl fun a hF=>oV hF (aq hF.o ar ab (bj (by omega) (by omega))) rfl fun a hF=>oV hF (aq ar hF.o ab (eL (by omega) (by omega))) rfl fun a hF=>oM hF 8 rfl rfl fun a hF=>oV hF (aq hF.o ar ab (bN (by omega) (by omega))) rfl fun a hF=>oV hF (aq hF.q hF.o ab (bj (by omega) (by omega))) rfl fun a hF=>?_
 refine S.newI st hF 0 rfl cM Dl rfl rfl fun g9 w3 a st hF=>?_
 refine ns ?_
 refine E.rga 5 aF hF [21,22,23,24,10] [_,_,_,_,kn w3 [.bool false,.slice none 0 0,.slice none 0 0]] [4] ⟨fun _ _ ⟨g,e,_,o⟩=>⟨g,e,o.lt⟩,trivial⟩ (by decide+kernel) rfl rfl rfl ⟨ck st wK rfl fun _ s=>mh,rd rfl rfl fun a' w' hF' hb=>(au (hF'.at 0 rfl) (bQ (v:= .int .i64 ((12*(y+3179))+(m-1))) ((st.bk 0 rfl).below hb) rfl)),ck st k48 rfl fun _ s=>aB (bz ((12*(y+3179))+(m-1)) (12) _ (by omega) (by omega) (by decide) (by decide)) (ah.up (aK (ao (by omega) (by omega)) (ao (by decide) (by decide))) 2 (by decide)),ck st k82 rfl fun _ s _ x21 _ x23=>de x21 x23,ra aa rfl rfl,trivial⟩ ?_
 intro a w4 hF bb hall hne
 have s0:=st
 replace st:=st.to bb
 obtain⟨vv5,hF,st⟩:=rS hall hF st 3 rfl rfl Rl.cl
 obtain⟨r7,rfl⟩:=Rq.fo (st.f 0 rfl).1
 obtain⟨_,e10,g10,rfl,ge10,o10⟩:=sS hall 4 10 rfl rfl
 replace st:=st.push o10.blk (Nat.le_trans s0.bel.size ge10) (s0.ne ge10)
 clear o10
 replace hF:=hF.add e10
 clear hall bb hne s0
 refine so st hF 0 0 1 aa rfl rfl rfl rfl fun w8 a st hF=>?_
 refine ns ?_
 refine E.rg 9 aF hF [26,27,28,29,25,30,31,11,12] [_,_,_,_,.ex (.tuple #[.int .i64 fe,.bool true]),.ex (.int .i64 fe),.ex (.bool true),.ex (.int .i64 fe),.ex (.bool true)] (by decide+kernel) rfl rfl rfl ⟨rb st aa 0 0 rfl,ck st k30 rfl fun _ s=>aB (a7 ((-1132959)) _ (by decide) (by decide)) (aW (ao (by decide) (by decide)) (by omega)),ck st k50 rfl fun _ s _ x27=>lT (s.f 0 rfl) x27,ck st k86 rfl fun _ s _ x28=>a9 (Ce _ (((pyr)*((((12*(y+3179))+(m-1):Int):Rat)/((12:Int):Rat)))+((((-1132959):Int):Rat))) 7 fe _ x28.1 x28.2 (by omega) hfe (by omega) (by omega)),(by intro a' w' hF' hb hd;have e29:=tE hd 0 rfl;exact dv0 (aN e29) rfl rfl rfl),(by intro a' w' hF' hb hd;have e25:=tE hd 0 rfl;exact dv0 (aR (v:= .int .i64 fe) e25 rfl) rfl rfl rfl),(by intro a' w' hF' hb hd;have e25:=tE hd 0 rfl;exact dv0 (aR (v:= .bool true) e25 rfl) rfl rfl rfl),(by intro a' w' hF' hb hd;have e30:=tE hd 0 rfl;exact dv0 (a8 e30) rfl rfl rfl),(by intro a' w' hF' hb hd;have e31:=tE hd 0 rfl;exact dv0 (a8 e31) rfl rfl rfl),trivial⟩ ?_
 intro a w9 hF bb hall
 replace st:=st.to bb
 replace hF:=rE hall hF 7 rfl rfl
 clear hall bb
 refine nq ?_
 refine oM hF 0 rfl rfl fun a hF=>oV hF (aq hF.o ar ab (bN (by omega) (by omega))) rfl fun a hF=>?_
 refine S.newI st hF 0 rfl cM Dl rfl rfl fun g13 w10 a st hF=>?_
 refine nq ?_
 refine oV hF (zM ir (GN (hF.at 15 rfl) hF.o (hF.at 14 rfl) (hF.at 6 rfl))) rfl fun a hF=>?_
 refine cX st hF (rgc Om (aI ar hF.o)) (Af 15 (foD (jf r xa xb xc xd) y m-(fe-7)) _ _ (fun h=>decide ((12*(y+3179))+(m-1)≤kaV (cW r (fe-7+h) xa xb xc xd)-23470560000)) _ (by omega) (by omega) (by omega) (fun h _ _=>K3 (by first|assumption|constructor<;>omega) h) (Bv r (fe-7) ((12*(y+3179))+(m-1)) xa xb xc xd _ _ _ _ _ (hT.below st.bel) (by first|assumption|constructor<;>omega) (by omega) (by omega) (st.bk 4 rfl) (st.bk 0 rfl) (st.bk 3 rfl) (st.bk 2 rfl))) rfl fun w11 a st hF=>?_
 refine oA hF 0 rfl rfl fun a hF=>nq ?_
 refine oV hF (au (hF.at 3 rfl) (bQ (v:= .int .i64 (fe-7)) (st.bk 0 rfl) rfl)) rfl fun a hF=>oM hF 1 rfl rfl fun a hF=>oV hF (aq hF.p hF.o ab (bj (by omega) (by omega))) rfl fun a hF=>oE hF 0 rfl rfl fun a hF=>nr ?_
 have bel:=st.bel
 refine rt Tryz.results63 hF 0 rfl ?_
 refine⟨bS ?_,bel⟩
 omega
theorem EP (r n:Int) (xa xb xc xd:Int) (w:World) (hT:bG w) (hok:cf xa xb xc xd) (hr0:0≤r) (hr1:r≤3) (hn0: -3000000≤n) (hn1:n≤3000000):
 Calls Tryz.prog 31 #[.int .i64 r,.int .i64 n,.agg #[.int .i64 xa,.int .i64 xb,.int .i64 xc,.int .i64 xd]] w (aG w (.tuple #[.agg #[.int .i64 (kaV (cW r n xa xb xc xd)/12-1955880000-3179),.int .i64 (kaV (cW r n xa xb xc xd)%12+1),.int .i64 (n-fsD (jf r xa xb xc xd) n+1)],.int .i64 0])):=by
 have hck:ckE r xa xb xc xd=0:=KL hr0 hr1 hok
 have hkc:=G0 r (n:=n) hok (by omega) (by omega)
 have hfs:=pw (uA r hok) n
 have hfo:foD (jf r xa xb xc xd) (kaV (cW r n xa xb xc xd)/12-1955880000-3179) (kaV (cW r n xa xb xc xd)%12+1)=fsD (jf r xa xb xc xd) n:=KE (uA r hok) (ko r hok) n
 have st:=St.start w
 refine go3 (nt:=46) Tryz.func31 rfl rfl rfl fun a hF=>?_
 refine wq ?_
 refine bx st hF 2 rfl rfl fun g5 w1 a st hF=>?_
 refine S.alloc st hF rU rfl rfl fun g6 w2 a st hF=>?_
 refine oC hF rfl fun a hF=>ns ?_
 refine wq ?_
 refine oM hF 3 rfl rfl fun a hF=>oL hF st 3 1 aZ rfl rfl rfl rfl fun a hF=>?_
 refine cX st hF (rgc k59 (aI hF.p hF.o)) (B7 r xa xb xc xd _) rfl fun w3 a st hF=>?_
 refine oA hF 0 rfl rfl fun a hF=>nq ?_
 refine oM hF 0 rfl rfl fun a hF=>oT hF 0 (kR (c:=false) (aV (by omega))) rfl rfl fun a hF=>?_
 refine E.nil ?_
 refine wp_cond_false hF.o ?_
 refine wp_skip ?_
 refine E.norm ?_
 refine wp_seq ?_
 refine wq ?_
 refine oM hF 10 rfl rfl fun a hF=>?_
 refine cX st hF (rgc k33 (aD hF.o)) (vH n _ (by omega) (by omega)) rfl fun w4 a st hF=>?_
 refine oV hF (cF hF.o (bT _ false rfl)) rfl fun a hF=>?_
 refine E.nil ?_
 refine wp_cond_false hF.o ?_
 refine wp_skip ?_
 refine E.norm ?_
 refine wq ?_
 refine oM hF 12 rfl rfl fun a hF=>oM hF 14 rfl rfl fun a hF=>oL hF st 13 1 aZ rfl rfl rfl rfl fun a hF=>?_
 refine S.ck st hF (rgc k60 (sV hF.q hF.p hF.o)) (aB (ss r n xa xb xc xd _ (hT.below st.bel) (by first|assumption|constructor<;>omega) (by omega) (by omega)) (uF (by first|assumption|constructor<;>omega) (by omega) (by omega))) Rl.cl rfl fun vv6 w5 a st hF=>?_
 obtain⟨r8,rfl⟩:=Rq.fo (st.f 0 rfl).1
 refine S.new st hF 0 rfl aa rfl rfl rfl rfl rfl fun g9 w9 a st hF=>?_
 refine ns ?_
 refine E.rg 8 aF hF [28,29,30,31,32,33,10,11] [_,_,.ex (.int .i64 ((kaV (cW r n xa xb xc xd)/12-1955880000)-3179)),_,_,.ex (.int .i64 ((kaV (cW r n xa xb xc xd)%12)+1)),.ex (.int .i64 ((kaV (cW r n xa xb xc xd)/12-1955880000)-3179)),.ex (.int .i64 ((kaV (cW r n xa xb xc xd)%12)+1))] (by decide+kernel) rfl rfl rfl ⟨rb st aa 0 0 rfl,ck st k61 rfl fun _ s=>a9 (iz _ (cW r n xa xb xc xd) 3 _ (hT.below s.bel) (s.f 0 rfl).1 (s.f 0 rfl).2 (by omega) (by omega) (by omega)),(by intro a' w' hF' hb hd;have e29:=tE hd 0 rfl;exact dv0 (aq e29 ar ab (bN (by omega) (by omega))) rfl rfl rfl),rb st aa 0 0 rfl,ck st k62 rfl fun _ s=>a9 (nR _ (cW r n xa xb xc xd) 3 _ (hT.below s.bel) (s.f 0 rfl).1 (s.f 0 rfl).2 (by omega)),(by intro a' w' hF' hb hd;have e32:=tE hd 0 rfl;exact dv0 (aq e32 ar ab (bj (by omega) (by omega))) rfl rfl rfl),(by intro a' w' hF' hb hd;have e30:=tE hd 0 rfl;exact dv0 (a8 e30) rfl rfl rfl),(by intro a' w' hF' hb hd;have e33:=tE hd 0 rfl;exact dv0 (a8 e33) rfl rfl rfl),trivial⟩ ?_
 intro a w10 hF bb hall
 replace st:=st.to bb
 replace hF:=rE hall hF 6 rfl rfl
 replace hF:=rE hall hF 7 rfl rfl
 clear hall bb
 refine nq ?_
 refine oM hF 19 rfl rfl fun a hF=>oM hF 2 rfl rfl fun a hF=>oM hF 2 rfl rfl fun a hF=>oL hF st 21 2 aZ rfl rfl rfl rfl fun a hF=>?_
 refine cX st hF (rgc k63 (lZ (hF.at 3 rfl) hF.q hF.p hF.o)) (xy r ((kaV (cW r n xa xb xc xd)/12-1955880000)-3179) ((kaV (cW r n xa xb xc xd)%12)+1) xa xb xc xd _ (hT.below st.bel) (by first|assumption|constructor<;>omega) (by omega) (by omega) (by omega) (by omega) (by omega) (by omega)) rfl fun w11 a st hF=>?_
 refine oA hF 0 rfl rfl fun a hF=>nq ?_
 refine oM hF 7 rfl rfl fun a hF=>oM hF 7 rfl rfl fun a hF=>oM hF 28 rfl rfl fun a hF=>oM hF 3 rfl rfl fun a hF=>oV hF (aq hF.p hF.o ab (bN (by omega) (by omega))) rfl fun a hF=>oV hF (aq hF.o ar ab (bj (by omega) (by omega))) rfl fun a hF=>oV hF (bh (MC (hF.at 5 rfl) (hF.at 4 rfl) hF.o) (Ap _ _ _ _)) rfl fun a hF=>?_
 refine S.stoI st hF 1 rfl (hF.at 30 rfl) hF.o rU rfl rfl rfl fun w12 a st hF=>?_
 refine oS hF (a8 ar) rfl fun a hF=>nr ?_
 have bel:=st.bel
 refine bodyPost_ret (jH Tryz.results31 (hF.at 30 rfl) (bF rU (st.bk 1 rfl) rfl) hF.o) hF.dfr ?_
 refine⟨?_,bel⟩
 rw[hfo]
end Go.Proofs.YtdbiegfmgabicaaGreatDoor
