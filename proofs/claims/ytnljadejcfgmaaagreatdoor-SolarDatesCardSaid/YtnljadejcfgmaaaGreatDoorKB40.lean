import Derived.Test.YtnljadejcfgmaaaGreatDoorKB19
import Derived.Test.YtnljadejcfgmaaaGreatDoorKB22
import Derived.Test.YtnljadejcfgmaaaGreatDoorKB37
import Derived.Test.YtnljadejcfgmaaaGreatDoorKB38
import Derived.Test.YtnljadejcfgmaaaGreatDoorKB39
namespace Go.Proofs.YtnljadejcfgmaaaGreatDoor
open Go.RowKit
set_option maxRecDepth 100000
set_option linter.unusedVariables false
set_option maxHeartbeats 8000000
theorem Fi:(Tryz.f91.name == "runtime.NumGoroutine")=false∧Tryz.f91.body.isNone=false:=⟨by decide+kernel,by kernel_rfl⟩
theorem jS (v1:Value) (qt:Rat) (k:Nat) (w:World) (hT:bV w) (h1:Rq w v1 qt) (hl:au qt k) (hk:k≤100):Calls Tryz.prog 31 #[v1] w (aR w (.int .i64 (kaV qt%12))):=by
 rw[←vM]
 exact yI v1 qt k w hT h1 hl hk
theorem ia (r n:Int) (xa xb xc xd:Int) (w:World) (hT:bV w) (hok:cj xa xb xc xd) (hn0: -3900000≤n) (hn1:n≤3900000):
 Calls Tryz.prog 16 #[.int .i64 r,.int .i64 n,.agg #[.int .i64 xa,.int .i64 xb,.int .i64 xc,.int .i64 xd]] w (bl w (aY r n xa xb xc xd)):=by
 have hok1:=hok.b0
 have hok2:=hok.b1
 have hok3:=hok.d0
 have hok4:=hok.d1
 have st:=St.start w
 refine go3 (nt:=40) Tryz.func16 rfl rfl rfl fun a hF=>?_
 refine wq ?_
 refine bx st hF 2 rfl rfl fun g5 w1 a st hF=>?_
 refine S.alloc st hF ah rfl rfl fun g6 w2 a st hF=>?_
 refine ns ?_
 refine wq ?_
 refine oM hF 2 rfl rfl fun a hF=>?_
 refine E.nil ?_
 refine wp_block ?_
 refine wq ?_
 by_cases hc3:r=0
 ·first
  |(exfalso;omega)
  |(refine oV hF (aq (hF.at 0 rfl) ao ab (aw (aX (c:=true) (aU hc3)) (by simp))) rfl fun a hF=>?_
    refine oA hF 0 rfl rfl fun a hF=>?_
    refine E.nil ?_
    refine wp_cond_true (hF.at 0 rfl) ?_
    refine wq ?_
    refine oM hF 6 rfl rfl fun a hF=>?_
    refine oV hF (aq (hF.at 0 rfl) ao ab (bq (by omega) (by omega))) rfl fun a hF=>?_
    refine oL hF st 6 1 be rfl rfl rfl rfl fun a hF=>?_
    refine S.ck st hF (rgc k53 (aC (hF.at 1 rfl) (hF.at 0 rfl))) (aD (mg (n+1) xa xb xc xd _ (hT.below st.bel) (by first|assumption|exact⟨by omega,by omega,by omega,by omega,by omega,by omega,by omega,by omega⟩) (by omega) (by omega)) (iu (by first|assumption|exact⟨by omega,by omega,by omega,by omega,by omega,by omega,by omega,by omega⟩) (by omega) (by omega))) Rl.cl rfl fun vv5 w4 a st hF=>?_
    obtain⟨r7,rfl⟩:=Rq.fo (st.f 0 rfl).1
    refine so st hF 0 7 0 ah rfl rfl rfl rfl fun w8 a st hF=>?_
    refine nr ?_
    refine rs Tryz.results16 st hF 7 0 ah rfl rfl rfl ?_
    have bel:=st.bel
    exact⟨_,rfl,Rq.castM (st.f 0 rfl).1 (wl hc3),bel⟩)
 ·first
  |(exfalso;omega)
  |(refine oV hF (aq (hF.at 0 rfl) ao ab (aw (aX (c:=false) (aK hc3)) (by simp))) rfl fun a hF=>?_
    refine oA hF 0 rfl rfl fun a hF=>?_
    refine E.nil ?_
    refine wp_cond_false (hF.at 0 rfl) ?_
    refine wq ?_
    by_cases hc9:r=1
    ·first
     |(exfalso;omega)
     |(refine oV hF (aq (hF.at 2 rfl) ao ab (aw (aX (c:=true) (aU hc9)) (by simp))) rfl fun a hF=>?_
       refine oA hF 0 rfl rfl fun a hF=>?_
       refine E.nil ?_
       refine wp_cond_true (hF.at 0 rfl) ?_
       refine wq ?_
       refine oM hF 8 rfl rfl fun a hF=>?_
       refine oL hF st 7 1 be rfl rfl rfl rfl fun a hF=>?_
       refine S.ck st hF (rgc k54 (aC (hF.at 1 rfl) (hF.at 0 rfl))) (aD (mP n xa xb xc xd _ (hT.below st.bel) (by first|assumption|exact⟨by omega,by omega,by omega,by omega,by omega,by omega,by omega,by omega⟩) (by omega) (by omega)) (iG (by first|assumption|exact⟨by omega,by omega,by omega,by omega,by omega,by omega,by omega,by omega⟩) (by omega) (by omega))) Rl.cl rfl fun vv11 w10 a st hF=>?_
       obtain⟨r13,rfl⟩:=Rq.fo (st.f 0 rfl).1
       refine so st hF 0 8 0 ah rfl rfl rfl rfl fun w14 a st hF=>?_
       refine nr ?_
       refine rs Tryz.results16 st hF 8 0 ah rfl rfl rfl ?_
       have bel:=st.bel
       exact⟨_,rfl,Rq.castM (st.f 0 rfl).1 (wV hc9),bel⟩)
    ·first
     |(exfalso;omega)
     |(refine oV hF (aq (hF.at 2 rfl) ao ab (aw (aX (c:=false) (aK hc9)) (by simp))) rfl fun a hF=>?_
       refine oA hF 0 rfl rfl fun a hF=>?_
       refine E.nil ?_
       refine wp_cond_false (hF.at 0 rfl) ?_
       refine wq ?_
       by_cases hc15:r=2
       ·first
        |(exfalso;omega)
        |(refine oV hF (aq (hF.at 4 rfl) ao ab (aw (aX (c:=true) (aU hc15)) (by simp))) rfl fun a hF=>?_
          refine oA hF 0 rfl rfl fun a hF=>?_
          refine E.nil ?_
          refine wp_cond_true (hF.at 0 rfl) ?_
          refine wp_seq ?_
          refine E.rga 8 aF hF [23,24,25,26,27,28,7,8] [_,_,_,_,_,_,kn w2 [.bool false,.slice none 0 0,.slice none 0 0],kn w2 [.bool false,.slice none 0 0,.slice none 0 0]] [6,7] ⟨fun _ _ ⟨g,e,_,o⟩=>⟨g,e,o.lt⟩,⟨fun _ _ ⟨g,e,_,o⟩=>⟨g,e,o.lt⟩,trivial⟩⟩ (by decide+kernel) rfl rfl rfl ⟨rm 10 rfl,rb st be 8 1 rfl,ck st k53 rfl fun _ s=>aD (mg n xa xb xc xd _ (hT.below s.bel) (by first|assumption|exact⟨by omega,by omega,by omega,by omega,by omega,by omega,by omega,by omega⟩) (by omega) (by omega)) (iu (by first|assumption|exact⟨by omega,by omega,by omega,by omega,by omega,by omega,by omega,by omega⟩) (by omega) (by omega)),rm 10 rfl,rb st be 8 1 rfl,ck st k54 rfl fun _ s=>aD (mP n xa xb xc xd _ (hT.below s.bel) (by first|assumption|exact⟨by omega,by omega,by omega,by omega,by omega,by omega,by omega,by omega⟩) (by omega) (by omega)) (iG (by first|assumption|exact⟨by omega,by omega,by omega,by omega,by omega,by omega,by omega,by omega⟩) (by omega) (by omega)),ra ah rfl rfl,ra ah rfl rfl,trivial⟩ ?_
          intro a w16 hF bb hall hne
          have s0:=st
          replace st:=st.to bb
          obtain⟨vv17,hF,st⟩:=rS hall hF st 2 rfl rfl Rl.cl
          obtain⟨r19,rfl⟩:=Rq.fo (st.f 0 rfl).1
          obtain⟨vv20,hF,st⟩:=rS hall hF st 5 rfl rfl Rl.cl
          obtain⟨r22,rfl⟩:=Rq.fo (st.f 0 rfl).1
          obtain⟨_,e7,g7,rfl,ge7,o7⟩:=sS hall 6 7 rfl rfl
          replace st:=st.push o7.blk (Nat.le_trans s0.bel.size ge7) (s0.ne ge7)
          clear o7
          replace hF:=hF.add e7
          obtain⟨_,e8,g8,rfl,ge8,o8⟩:=sS hall 7 8 rfl rfl
          replace st:=st.push o8.blk (Nat.le_trans s0.bel.size ge8) (jI (fun(e:g7=g8)=>hne 6 7 7 8 rfl rfl (by decide) rfl rfl (by rw[e7,e8,e])) (s0.ne ge8))
          clear o8
          replace hF:=hF.add e8
          clear hall bb hne s0
          refine so st hF 1 1 3 ah rfl rfl rfl rfl fun w23 a st hF=>?_
          refine so st hF 0 0 2 ah rfl rfl rfl rfl fun w24 a st hF=>?_
          refine ns ?_
          refine E.rg 8 aF hF [29,30,31,32,33,34,35,36] [_,_,_,_,_,_,_,_] (by decide+kernel) rfl rfl rfl ⟨rb st ah 1 1 rfl,rb st ah 0 0 rfl,rb st ah 1 1 rfl,ck st k57 rfl fun _ s=>gJ (s.f 0 rfl) (s.f 1 rfl),ck st k35 rfl fun _ s=>aD (bw (3) (5) _ (by decide) (by decide) (by decide) (by decide)) (au.up (aJ (az (by decide) (by decide)) (az (by decide) (by decide))) 2 (by decide)),ck st k58 rfl fun _ s _ x32 _ x33=>cB x32 x33,ck st k56 rfl fun _ s _ x34=>o0 (s.f 1 rfl) x34,ck st k55 rfl fun _ s _ x35=>aD (kO _ ((cz (gz n xa xb xc xd))+(((cz (gL n xa xb xc xd))-(cz (gz n xa xb xc xd)))*(((3:Int):Rat)/((5:Int):Rat)))) 13 _ x35.1 x35.2 (by omega)) (ki x35.2),trivial⟩ ?_
          intro a w25 hF bb hall
          replace st:=st.to bb
          obtain⟨vv26,hF,st⟩:=rS hall hF st 7 rfl rfl Rl.cl
          obtain⟨r28,rfl⟩:=Rq.fo (st.f 0 rfl).1
          clear hall bb
          refine so st hF 2 12 0 ah rfl rfl rfl rfl fun w29 a st hF=>?_
          refine nr ?_
          refine rs Tryz.results16 st hF 12 2 ah rfl rfl rfl ?_
          have bel:=st.bel
          exact⟨_,rfl,Rq.castM (st.f 0 rfl).1 (vP hc15 (GW _ _)),bel⟩)
       ·first
        |(exfalso;omega)
        |(refine oV hF (aq (hF.at 4 rfl) ao ab (aw (aX (c:=false) (aK hc15)) (by simp))) rfl fun a hF=>?_
          refine oA hF 0 rfl rfl fun a hF=>?_
          refine E.nil ?_
          refine wp_cond_false (hF.at 0 rfl) ?_
          refine wp_skip ?_
          refine E.blk ?_
          refine E.norm ?_
          refine wq ?_
          refine oM hF 10 rfl rfl fun a hF=>?_
          refine oV hF (aq (hF.at 0 rfl) ao ab (bq (by omega) (by omega))) rfl fun a hF=>?_
          refine S.ck st hF (rgc k40 (aI (hF.at 0 rfl))) (aD (bj (n+1) _ (by omega) (by omega)) (a9 (az (by omega) (by omega)) (by omega))) Rl.cl rfl fun vv31 w30 a st hF=>?_
          obtain⟨r33,rfl⟩:=Rq.fo (st.f 0 rfl).1
          refine so st hF 0 10 0 ah rfl rfl rfl rfl fun w34 a st hF=>?_
          refine nr ?_
          refine rs Tryz.results16 st hF 10 0 ah rfl rfl rfl ?_
          have bel:=st.bel
          exact⟨_,rfl,Rq.castM (st.f 0 rfl).1 (wZ hc3 hc9 hc15),bel⟩)))
theorem xI (v:Value) (z n:Int) (w:World) (h:Wz w v z) (e:z=n) (b0: -9223372036854775808≤n) (b1:n≤9223372036854775807):Calls Tryz.prog 79 #[v] w (aR w (.tuple #[.int .i64 n,.bool true])):=by
 subst e
 have h':=uy v z w h
 rw[ms b0 b1,nl b0 b1] at h'
 exact h'
theorem iV (v1:Value) (qt:Rat) (k:Nat) (w:World) (hT:bV w) (h1:Rq w v1 qt) (hl:au qt k) (hk:k≤100) (hk0: -1000000000000≤kaV qt) (hk1:kaV qt≤1000000000000):
 Calls Tryz.prog 20 #[v1] w (aR w (.int .i64 (kaV qt/12-1955880000))):=by
 have st:=St.start w
 refine go1 (nt:=23) Tryz.func20 rfl rfl rfl fun a hF=>?_
 refine wq ?_
 obtain⟨r2,rfl⟩:=Rq.fo h1
 refine bx st hF 0 rfl rfl fun g1 w1 a st hF=>?_
 refine oC hF rfl fun a hF=>?_
 refine ns ?_
 refine E.rga 6 aF hF [6,7,8,9,10,3] [_,_,_,_,_,kn w1 [.bool false,.slice none 0 0,.slice none 0 0]] [5] ⟨fun _ _ ⟨g,e,_,o⟩=>⟨g,e,o.lt⟩,trivial⟩ (by decide+kernel) rfl rfl rfl ⟨rb st ah 1 0 rfl,ck st k40 rfl fun _ s=>aD (bj ((-1132959)) _ (by decide) (by decide)) (a9 (az (by decide) (by decide)) (by omega)),ck st k57 rfl fun _ s _ x7=>gJ ⟨(h1.below s.bel),hl⟩ x7,ck st k76 rfl fun _ s=>lc,ck st k75 rfl fun _ s _ x8 _ x9=>m8 x8 x9,ra ah rfl rfl,trivial⟩ ?_
 intro a w3 hF bb hall hne
 have s0:=st
 replace st:=st.to bb
 obtain⟨vv4,hF,st⟩:=rS hall hF st 4 rfl rfl Rl.cl
 obtain⟨r6,rfl⟩:=Rq.fo (st.f 0 rfl).1
 obtain⟨_,e3,g3,rfl,ge3,o3⟩:=sS hall 5 3 rfl rfl
 replace st:=st.push o3.blk (Nat.le_trans s0.bel.size ge3) (s0.ne ge3)
 clear o3
 replace hF:=hF.add e3
 clear hall bb hne s0
 refine so st hF 0 0 1 ah rfl rfl rfl rfl fun w7 a st hF=>?_
 refine ns ?_
 refine E.rg 13 aF hF [12,13,14,15,16,17,18,19,11,20,21,4,5] [_,_,_,_,_,_,_,_,.ex (.tuple #[.int .i64 (kaV qt/12-1955880000),.bool true]),.ex (.int .i64 (kaV qt/12-1955880000)),.ex (.bool true),.ex (.int .i64 (kaV qt/12-1955880000)),.ex (.bool true)] (by decide+kernel) rfl rfl rfl ⟨rb st ah 0 0 rfl,rb st ah 3 1 rfl,ck st k78 rfl fun _ s=>zm (hT.below s.bel) ⟨(h1.below s.bel),hl⟩,ck st k35 rfl fun _ s=>aD (bw (1) (360) _ (by decide) (by decide) (by decide) (by decide)) (au.up (aJ (az (by decide) (by decide)) (az (by decide) (by decide))) 2 (by decide)),ck st k58 rfl fun _ s _ x14 _ x15=>cB x14 x15,ck st k57 rfl fun _ s _ x16=>gJ (s.f 0 rfl) x16,ck st k77 rfl fun _ s _ x17=>zK (xm _ ((((qt)-((((-1132959):Int):Rat)))/(pyr))-((cT (qt))*(((1:Int):Rat)/((360:Int):Rat)))) (((k+2+1)+2)+((3*k+100)+2)+1) _ x17.1 x17.2 (by omega)) (yT x17.2),ck st k79 rfl fun _ s _ x18=>bA (xI _ (Rat.floor (((((qt)-((((-1132959):Int):Rat)))/(pyr))-((cT (qt))*(((1:Int):Rat)/((360:Int):Rat))))+((1:Int):Rat)/((2:Int):Rat))) (kaV qt/12-1955880000) _ (Wc.wz x18.1) (xW qt) (by omega) (by omega)),(by intro a' w' hF' hb hd;have e19:=tE hd 0 rfl;exact dv0 (aP e19) rfl rfl rfl),(by intro a' w' hF' hb hd;have e11:=tE hd 0 rfl;exact dv0 (aW (v:= .int .i64 (kaV qt/12-1955880000)) e11 rfl) rfl rfl rfl),(by intro a' w' hF' hb hd;have e11:=tE hd 0 rfl;exact dv0 (aW (v:= .bool true) e11 rfl) rfl rfl rfl),(by intro a' w' hF' hb hd;have e20:=tE hd 0 rfl;exact dv0 (aO e20) rfl rfl rfl),(by intro a' w' hF' hb hd;have e21:=tE hd 0 rfl;exact dv0 (aO e21) rfl rfl rfl),trivial⟩ ?_
 intro a w8 hF bb hall
 replace st:=st.to bb
 replace hF:=rE hall hF 11 rfl rfl
 clear hall bb
 refine nq ?_
 refine oM hF 0 rfl rfl fun a hF=>?_
 refine oE hF 0 rfl rfl fun a hF=>?_
 refine nr ?_
 have bel:=st.bel
 refine rt Tryz.results20 hF 0 rfl ?_
 exact⟨rfl,bel⟩
theorem wU (r n:Int) (xa xb xc xd:Int) (w:World) (hT:bV w) (hok:cj xa xb xc xd) (hn0: -3900000≤n) (hn1:n≤3900000):
 Calls Tryz.prog 22 #[.int .i64 r,.int .i64 n,.agg #[.int .i64 xa,.int .i64 xb,.int .i64 xc,.int .i64 xd]] w (aR w (.int .i64 (kaV (aY r n xa xb xc xd)%12))):=by
 have st:=St.start w
 refine go3 (nt:=12) Tryz.func22 rfl rfl rfl fun a hF=>?_
 refine wq ?_
 refine bx st hF 2 rfl rfl fun g5 w1 a st hF=>?_
 refine oC hF rfl fun a hF=>?_
 refine nq ?_
 refine oM hF 2 rfl rfl fun a hF=>?_
 refine oM hF 4 rfl rfl fun a hF=>?_
 refine oL hF st 3 0 be rfl rfl rfl rfl fun a hF=>?_
 refine S.ck st hF (rgc k16 (eB (hF.at 2 rfl) (hF.at 1 rfl) (hF.at 0 rfl))) (aD (ia r n xa xb xc xd _ (hT.below st.bel) (by first|assumption|exact⟨by omega,by omega,by omega,by omega,by omega,by omega,by omega,by omega⟩) (by omega) (by omega)) (eu (by first|assumption|exact⟨by omega,by omega,by omega,by omega,by omega,by omega,by omega,by omega⟩) (by omega) (by omega))) Rl.cl rfl fun vv3 w2 a st hF=>?_
 obtain⟨r5,rfl⟩:=Rq.fo (st.f 0 rfl).1
 refine cX st hF (rgc k31 (aI (hF.at 0 rfl))) (jS _ _ 3 _ (hT.below st.bel) (st.f 0 rfl).1 (st.f 0 rfl).2 (by omega)) rfl fun w6 a st hF=>?_
 refine oE hF 0 rfl rfl fun a hF=>?_
 refine nr ?_
 have bel:=st.bel
 refine rt Tryz.results22 hF 0 rfl ?_
 exact⟨rfl,bel⟩
theorem fO (r xa xb xc xd:Int) (w:World):
 Calls Tryz.prog 86 #[.int .i64 r,.agg #[.int .i64 xa,.int .i64 xb,.int .i64 xc,.int .i64 xd]] w (aR w (.int .i64 (ckE r xa xb xc xd))):=by
 have st:=St.start w
 refine go2 (nt:=13) Tryz.func86 rfl rfl rfl fun a hF=>?_
 refine wq ?_
 refine bx st hF 1 rfl rfl fun g3 w1 a st hF=>?_
 refine oC hF rfl fun a hF=>?_
 refine ns ?_
 refine wq ?_
 refine oM hF 2 rfl rfl fun a hF=>?_
 by_cases hc2:r<0
 ·first
  |(exfalso;omega)
  |(refine oV hF (aq (hF.at 0 rfl) ao ab (aw (a6 (c:=true) (aU hc2)) (by simp))) rfl fun a hF=>?_
    refine oM hF 0 rfl rfl fun a hF=>?_
    refine E.unwanted hF (aa rfl rfl (hF.at 0 rfl) rfl) rfl rfl rfl fun a hF=>?_
    refine E.unwanted hF (aa rfl rfl (hF.at 1 rfl) rfl) rfl rfl rfl fun a hF=>?_
    refine oV hF (aN (hF.at 2 rfl) ao) rfl fun a hF=>?_
    refine E.nil ?_
    refine wp_cond_true (hF.at 0 rfl) ?_
    refine wq ?_
    refine oS hF (aO ao) rfl fun a hF=>?_
    refine nr ?_
    have bel:=st.bel
    refine rt Tryz.results86 hF 0 rfl ?_
    refine⟨cm ?_,bel⟩
    unfold ckE
    rw[if_neg (by omega)])
 ·first
  |(exfalso;omega)
  |(refine oV hF (aq (hF.at 0 rfl) ao ab (aw (a6 (c:=false) (aK hc2)) (by simp))) rfl fun a hF=>?_
    refine oM hF 0 rfl rfl fun a hF=>?_
    refine E.opvg hF (aP (hF.at 5 rfl)) (aa rfl rfl (hF.at 0 rfl) rfl) rfl rfl rfl fun a hF=>?_
    by_cases hc3:4≤r
    ·first
     |(exfalso;omega)
     |(refine E.opvg hF (aq (hF.at 0 rfl) ao ab (aw (eo (c:=true) (aU hc3)) (by simp))) (aa rfl rfl (hF.at 1 rfl) rfl) rfl rfl rfl fun a hF=>?_
       refine oV hF (aQ (hF.at 2 rfl) (hF.at 0 rfl)) rfl fun a hF=>?_
       refine E.nil ?_
       refine wp_cond_true (hF.at 0 rfl) ?_
       refine wq ?_
       refine oS hF (aO ao) rfl fun a hF=>?_
       refine nr ?_
       have bel:=st.bel
       refine rt Tryz.results86 hF 0 rfl ?_
       refine⟨cm ?_,bel⟩
       unfold ckE
       rw[if_neg (by omega)])
    ·first
     |(exfalso;omega)
     |(refine E.opvg hF (aq (hF.at 0 rfl) ao ab (aw (eo (c:=false) (aK hc3)) (by simp))) (aa rfl rfl (hF.at 1 rfl) rfl) rfl rfl rfl fun a hF=>?_
       refine oV hF (aQ (hF.at 2 rfl) (hF.at 0 rfl)) rfl fun a hF=>?_
       refine E.nil ?_
       refine wp_cond_false (hF.at 0 rfl) ?_
       refine wp_skip ?_
       refine E.norm ?_
       refine wq ?_
       refine oL hF st 7 0 be rfl rfl rfl rfl fun a hF=>?_
       refine cX st hF (rgc k32 (aI (hF.at 0 rfl))) (xz xa xb xc xd _) rfl fun w4 a st hF=>?_
       refine oE hF 0 rfl rfl fun a hF=>?_
       refine nr ?_
       have bel:=st.bel
       refine rt Tryz.results86 hF 0 rfl ?_
       refine⟨cm ?_,bel⟩
       unfold ckE
       rw[if_pos (by omega)]))
theorem yQ (v1:Value) (qt:Rat) (k:Nat) (w:World) (hT:bV w) (h1:Rq w v1 qt) (hl:au qt k) (hk:k≤100) (hk0: -1000000000000≤kaV qt) (hk1:kaV qt≤1000000000000):
 Calls Tryz.prog 92 #[v1] w (aR w (.int .i64 (kaV qt-23470560000))):=by
 have st:=St.start w
 refine go1 (nt:=9) Tryz.func92 rfl rfl rfl fun a hF=>?_
 refine wq ?_
 obtain⟨r2,rfl⟩:=Rq.fo h1
 refine bx st hF 0 rfl rfl fun g1 w1 a st hF=>?_
 refine oC hF rfl fun a hF=>?_
 refine ns ?_
 refine E.rg 6 aF hF [3,4,5,6,7,8] [_,_,.ex (.int .i64 (12*(kaV (qt)/12-1955880000))),_,_,.ex (.int .i64 ((12*(kaV (qt)/12-1955880000))+(kaV (qt)%12)))] (by decide+kernel) rfl rfl rfl ⟨rb st ah 1 0 rfl,ck st k20 rfl fun _ s=>bA (iV _ (qt) k _ (hT.below s.bel) (h1.below s.bel) hl (by omega) (by omega) (by omega)),(by intro a' w' hF' hb hd;have e4:=tE hd 0 rfl;exact dv0 (aq ao e4 ab (dZ (by omega) (by omega))) rfl rfl rfl),rb st ah 1 0 rfl,ck st k31 rfl fun _ s=>bA (jS _ (qt) k _ (hT.below s.bel) (h1.below s.bel) hl (by omega)),(by intro a' w' hF' hb hd;have e5:=tE hd 0 rfl;have e7:=tE hd 1 rfl;exact dv0 (aq e5 e7 ab (bq (by omega) (by omega))) rfl rfl rfl),trivial⟩ ?_
 intro a w3 hF bb hall
 replace st:=st.to bb
 replace hF:=rE hall hF 5 rfl rfl
 clear hall bb
 refine oE hF 0 rfl rfl fun a hF=>?_
 refine nr ?_
 have bel:=st.bel
 refine rt Tryz.results92 hF 0 rfl ?_
 refine⟨cm ?_,bel⟩
 omega
theorem AC (n:Int) (w:World) (hn0: -3000000≤n) (hn1:n≤3000000):
 Calls Tryz.prog 87 #[.int .i64 n] w (aR w (.bool true)):=by
 have st:=St.start w
 refine go1 (nt:=9) Tryz.func87 rfl rfl rfl fun a hF=>?_
 refine wq ?_
 refine oC hF rfl fun a hF=>?_
 refine nq ?_
 refine oM hF 1 rfl rfl fun a hF=>?_
 by_cases hc1:(-3000000)≤n
 ·first
  |(exfalso;omega)
  |(refine oV hF (aq (hF.at 0 rfl) ao ab (aw (eo (c:=true) (aU hc1)) (by simp))) rfl fun a hF=>?_
    refine oM hF 0 rfl rfl fun a hF=>?_
    refine E.opvg hF (aP (hF.at 4 rfl)) (aa rfl rfl (hF.at 0 rfl) rfl) rfl rfl rfl fun a hF=>?_
    by_cases hc2:n≤3000000
    ·first
     |(exfalso;omega)
     |(refine E.opvg hF (aq (hF.at 0 rfl) ao ab (aw (cn (c:=true) (aU hc2)) (by simp))) (aa rfl rfl (hF.at 1 rfl) rfl) rfl rfl rfl fun a hF=>?_
       refine oV hF (aN (hF.at 2 rfl) (hF.at 0 rfl)) rfl fun a hF=>?_
       refine oE hF 0 rfl rfl fun a hF=>?_
       refine nr ?_
       have bel:=st.bel
       refine rt Tryz.results87 hF 0 rfl ?_
       exact⟨rfl,bel⟩)
    ·first
     |(exfalso;omega)
     |(refine E.opvg hF (aq (hF.at 0 rfl) ao ab (aw (cn (c:=false) (aK hc2)) (by simp))) (aa rfl rfl (hF.at 1 rfl) rfl) rfl rfl rfl fun a hF=>?_
       refine oV hF (aN (hF.at 2 rfl) (hF.at 0 rfl)) rfl fun a hF=>?_
       refine oE hF 0 rfl rfl fun a hF=>?_
       refine nr ?_
       have bel:=st.bel
       refine rt Tryz.results87 hF 0 rfl ?_
       exfalso;omega))
 ·first
  |(exfalso;omega)
  |(refine oV hF (aq (hF.at 0 rfl) ao ab (aw (eo (c:=false) (aK hc1)) (by simp))) rfl fun a hF=>?_
    refine oM hF 0 rfl rfl fun a hF=>?_
    refine E.unwanted hF (aa rfl rfl (hF.at 0 rfl) rfl) rfl rfl rfl fun a hF=>?_
    refine E.unwanted hF (aa rfl rfl (hF.at 1 rfl) rfl) rfl rfl rfl fun a hF=>?_
    refine oV hF (aQ (hF.at 2 rfl) ao) rfl fun a hF=>?_
    refine oE hF 0 rfl rfl fun a hF=>?_
    refine nr ?_
    have bel:=st.bel
    refine rt Tryz.results87 hF 0 rfl ?_
    exfalso;omega)
theorem yE (n:Int) (w:World) (hx:¬(-3000000≤n∧n≤3000000)):
 Calls Tryz.prog 87 #[.int .i64 n] w (aR w (.bool false)):=by
 have st:=St.start w
 refine go1 (nt:=9) Tryz.func87 rfl rfl rfl fun a hF=>?_
 refine wq ?_
 refine oC hF rfl fun a hF=>?_
 refine nq ?_
 refine oM hF 1 rfl rfl fun a hF=>?_
 by_cases hc1:(-3000000)≤n
 ·first
  |(exfalso;omega)
  |(refine oV hF (aq (hF.at 0 rfl) ao ab (aw (eo (c:=true) (aU hc1)) (by simp))) rfl fun a hF=>?_
    refine oM hF 0 rfl rfl fun a hF=>?_
    refine E.opvg hF (aP (hF.at 4 rfl)) (aa rfl rfl (hF.at 0 rfl) rfl) rfl rfl rfl fun a hF=>?_
    by_cases hc2:n≤3000000
    ·first
     |(exfalso;omega)
     |(refine E.opvg hF (aq (hF.at 0 rfl) ao ab (aw (cn (c:=true) (aU hc2)) (by simp))) (aa rfl rfl (hF.at 1 rfl) rfl) rfl rfl rfl fun a hF=>?_
       refine oV hF (aN (hF.at 2 rfl) (hF.at 0 rfl)) rfl fun a hF=>?_
       refine oE hF 0 rfl rfl fun a hF=>?_
       refine nr ?_
       have bel:=st.bel
       refine rt Tryz.results87 hF 0 rfl ?_
       exfalso;omega)
    ·first
     |(exfalso;omega)
     |(refine E.opvg hF (aq (hF.at 0 rfl) ao ab (aw (cn (c:=false) (aK hc2)) (by simp))) (aa rfl rfl (hF.at 1 rfl) rfl) rfl rfl rfl fun a hF=>?_
       refine oV hF (aN (hF.at 2 rfl) (hF.at 0 rfl)) rfl fun a hF=>?_
       refine oE hF 0 rfl rfl fun a hF=>?_
       refine nr ?_
       have bel:=st.bel
       refine rt Tryz.results87 hF 0 rfl ?_
       exact⟨rfl,bel⟩))
 ·first
  |(exfalso;omega)
  |(refine oV hF (aq (hF.at 0 rfl) ao ab (aw (eo (c:=false) (aK hc1)) (by simp))) rfl fun a hF=>?_
    refine oM hF 0 rfl rfl fun a hF=>?_
    refine E.unwanted hF (aa rfl rfl (hF.at 0 rfl) rfl) rfl rfl rfl fun a hF=>?_
    refine E.unwanted hF (aa rfl rfl (hF.at 1 rfl) rfl) rfl rfl rfl fun a hF=>?_
    refine oV hF (aQ (hF.at 2 rfl) ao) rfl fun a hF=>?_
    refine oE hF 0 rfl rfl fun a hF=>?_
    refine nr ?_
    have bel:=st.bel
    refine rt Tryz.results87 hF 0 rfl ?_
    exact⟨rfl,bel⟩)
theorem yA (r bg sg xa xb xc xd h:Int) (g0 g1 g2 g3:Nat) (w:World) (hT:bV w) (hok:cj xa xb xc xd) (hb0: -3890000≤bg) (hb1:bg≤3890000) (hh0:0≤h) (hh1:h<15) (h0:Blk w g0 [.int .i64 r]) (h1:Blk w g1 [.int .i64 bg]) (h2:Blk w g2 [.int .i64 xa,.int .i64 xb,.int .i64 xc,.int .i64 xd]) (h3:Blk w g3 [.int .i64 sg]):
 Calls Tryz.prog 91 #[.int .i64 h,.pointer (some ⟨g0,0,none⟩),.pointer (some ⟨g1,0,none⟩),.pointer (some ⟨g2,0,none⟩),.pointer (some ⟨g3,0,none⟩)] w (aR w (.bool (decide (sg≤kaV (aY r (bg+h) xa xb xc xd)-23470560000)))):=by
 have hkc:=rA r (n:=bg+h) hok (by omega) (by omega)
 have st:=St.start w
 refine E.enter (nt:=16) (L:=[(0,.int .i64 h),(1,.pointer (some ⟨g0,0,none⟩)),(2,.pointer (some ⟨g1,0,none⟩)),(3,.pointer (some ⟨g2,0,none⟩)),(4,.pointer (some ⟨g3,0,none⟩))]) Tryz.func91 rfl rfl rfl (a8 (i:=0) rfl (a8 (i:=1) rfl (a8 (i:=2) rfl (a8 (i:=3) rfl (a8 (i:=4) rfl dY))))) ?_
 intro a hF
 refine wq ?_
 refine oC hF rfl fun a hF=>?_
 refine ns ?_
 refine E.rg 9 aF hF [7,8,9,10,11,12,13,14,15] [_,_,_,.ex (.int .i64 (bg+h)),_,_,_,_,.ex (.bool (decide (sg≤kaV (aY r (bg+h) xa xb xc xd)-23470560000)))] (by decide+kernel) rfl rfl rfl ⟨rd rfl rfl fun a' w' hF' hb=>(av (hF'.at 2 rfl) (bG (v:= .int .i64 r) (h0.below (ar st.bel hb)) rfl)),rd rfl rfl fun a' w' hF' hb=>(av (hF'.at 3 rfl) (bF (v:= .int .i64 bg) (h1.below (ar st.bel hb)) rfl)),rm 1 rfl,(by intro a' w' hF' hb hd;have e8:=tE hd 0 rfl;have e9:=tE hd 1 rfl;exact dv0 (aq e8 e9 ab (bq (by omega) (by omega))) rfl rfl rfl),rd rfl rfl fun a' w' hF' hb=>(av (hF'.at 4 rfl) (Dy (vs:=[.int .i64 xa,.int .i64 xb,.int .i64 xc,.int .i64 xd]) (h2.below (ar st.bel hb)) rfl rfl)),ck st k16 rfl fun _ s=>aD (ia r (bg+h) xa xb xc xd _ (hT.below s.bel) (by first|assumption|exact⟨by omega,by omega,by omega,by omega,by omega,by omega,by omega,by omega⟩) (by omega) (by omega)) (eu (by first|assumption|exact⟨by omega,by omega,by omega,by omega,by omega,by omega,by omega,by omega⟩) (by omega) (by omega)),ck st k92 rfl fun _ s _ x12=>bA (yQ _ (aY r (bg+h) xa xb xc xd) 3 _ (hT.below s.bel) x12.1 x12.2 (by omega) (by omega) (by omega)),rd rfl rfl fun a' w' hF' hb=>(av (hF'.at 5 rfl) (bF (v:= .int .i64 sg) (h3.below (ar st.bel hb)) rfl)),(by intro a' w' hF' hb hd;have e13:=tE hd 0 rfl;have e14:=tE hd 1 rfl;exact dv0 (aq e13 e14 ab (aw (eo (c:=decide (sg≤kaV (aY r (bg+h) xa xb xc xd)-23470560000)) rfl) (by simp))) rfl rfl rfl),trivial⟩ ?_
 intro a w1 hF bb hall
 replace st:=st.to bb
 replace hF:=rE hall hF 8 rfl rfl
 clear hall bb
 refine oE hF 0 rfl rfl fun a hF=>?_
 refine nr ?_
 have bel:=st.bel
 refine rt Tryz.results91 hF 0 rfl ?_
 exact⟨rfl,bel⟩
theorem xL (r bg sg xa xb xc xd:Int) (g0 g1 g2 g3:Nat) (w:World) (hT:bV w) (hok:cj xa xb xc xd) (hb0: -3890000≤bg) (hb1:bg≤3890000) (h0:Blk w g0 [.int .i64 r]) (h1:Blk w g1 [.int .i64 bg]) (h2:Blk w g2 [.int .i64 xa,.int .i64 xb,.int .i64 xc,.int .i64 xd]) (h3:Blk w g3 [.int .i64 sg]):sM w 91 #[.pointer (some ⟨g0,0,none⟩),.pointer (some ⟨g1,0,none⟩),.pointer (some ⟨g2,0,none⟩),.pointer (some ⟨g3,0,none⟩)] 15 (fun h=>decide (sg≤kaV (aY r (bg+h) xa xb xc xd)-23470560000)):=
 ⟨⟨_,Tryz.func91,Fi.1,Fi.2⟩,fun h w' hb a b=>yA r bg sg xa xb xc xd h g0 g1 g2 g3 w' (hT.below hb) hok hb0 hb1 a b (h0.below hb) (h1.below hb) (h2.below hb) (h3.below hb)⟩
theorem yP (v1:Value) (qt:Rat) (k:Nat) (n:Int) (w:World) (h1:Rq w v1 qt) (hl:au qt k) (hk:k≤10000) (e:qt.floor=n) (h0: -9223372036854775808≤n) (h3:n≤9223372036854775807):Calls Tryz.prog 89 #[v1] w (aR w (.tuple #[.int .i64 n,.bool true])):=by
 subst e
 have h:=kg v1 _ k w h1 hl hk
 rwa[ms h0 h3,nl h0 h3] at h
theorem nU (r y m:Int) (xa xb xc xd:Int) (w:World) (hT:bV w) (hok:cj xa xb xc xd) (hy0: -20000≤y) (hy1:y≤20000) (hm0:1≤m) (hm1:m≤12) (hf0: -3800000≤foD (bf r xa xb xc xd) y m) (hf1:foD (bf r xa xb xc xd) y m≤3800000):
 Calls Tryz.prog 29 #[.int .i64 r,.int .i64 y,.int .i64 m,.agg #[.int .i64 xa,.int .i64 xb,.int .i64 xc,.int .i64 xd]] w (aR w (.int .i64 (foD (bf r xa xb xc xd) y m))):=by
 have hfo:=F8 (eS r hok) (iB r hok) y m
 obtain⟨fe,hfe⟩:∃z:Int,(fg (12*(y+3179)+(m-1))).floor =z:=⟨_,rfl⟩
 rw[hfe] at hfo
 have st:=St.start w
 refine E.enter (nt:=39) (L:=[(0,.int .i64 r),(1,.int .i64 y),(2,.int .i64 m),(3,.agg #[.int .i64 xa,.int .i64 xb,.int .i64 xc,.int .i64 xd])]) Tryz.func29 rfl rfl rfl (a8 (i:=0) rfl (a8 (i:=1) rfl (a8 (i:=2) rfl (a8 (i:=3) rfl dY)))) ?_
 intro a hF
 refine wq ?_
 refine S.boxI st hF (hF.at 0 rfl) rfl rfl fun g4 w1 a st hF=>?_
 refine bx st hF 4 rfl rfl fun g7 w2 a st hF=>?_
 refine oC hF rfl fun a hF=>?_
 refine nq ?_
 refine oM hF 4 rfl rfl fun a hF=>?_
 refine oV hF (aq (hF.at 0 rfl) ao ab (bq (by omega) (by omega))) rfl fun a hF=>?_
 refine oV hF (aq ao (hF.at 0 rfl) ab (dZ (by omega) (by omega))) rfl fun a hF=>?_
 refine oM hF 8 rfl rfl fun a hF=>?_
 refine oV hF (aq (hF.at 0 rfl) ao ab (cv (by omega) (by omega))) rfl fun a hF=>?_
 refine oV hF (aq (hF.at 2 rfl) (hF.at 0 rfl) ab (bq (by omega) (by omega))) rfl fun a hF=>?_
 refine S.newI st hF 0 rfl dU Aa rfl rfl fun g9 w3 a st hF=>?_
 refine ns ?_
 refine E.rga 5 aF hF [21,22,23,24,10] [_,_,_,_,kn w3 [.bool false,.slice none 0 0,.slice none 0 0]] [4] ⟨fun _ _ ⟨g,e,_,o⟩=>⟨g,e,o.lt⟩,trivial⟩ (by decide+kernel) rfl rfl rfl ⟨ck st k76 rfl fun _ s=>lc,rd rfl rfl fun a' w' hF' hb=>(av (hF'.at 0 rfl) (bF (v:= .int .i64 ((12*(y+3179))+(m-1))) ((st.bk 0 rfl).below hb) rfl)),ck st k35 rfl fun _ s=>aD (bw ((12*(y+3179))+(m-1)) (12) _ (by omega) (by omega) (by decide) (by decide)) (au.up (aJ (az (by omega) (by omega)) (az (by decide) (by decide))) 2 (by decide)),ck st k58 rfl fun _ s _ x21 _ x23=>cB x21 x23,ra ah rfl rfl,trivial⟩ ?_
 intro a w4 hF bb hall hne
 have s0:=st
 replace st:=st.to bb
 obtain⟨vv5,hF,st⟩:=rS hall hF st 3 rfl rfl Rl.cl
 obtain⟨r7,rfl⟩:=Rq.fo (st.f 0 rfl).1
 obtain⟨_,e10,g10,rfl,ge10,o10⟩:=sS hall 4 10 rfl rfl
 replace st:=st.push o10.blk (Nat.le_trans s0.bel.size ge10) (s0.ne ge10)
 clear o10
 replace hF:=hF.add e10
 clear hall bb hne s0
 refine so st hF 0 0 1 ah rfl rfl rfl rfl fun w8 a st hF=>?_
 refine ns ?_
 refine E.rg 9 aF hF [26,27,28,29,25,30,31,11,12] [_,_,_,_,.ex (.tuple #[.int .i64 fe,.bool true]),.ex (.int .i64 fe),.ex (.bool true),.ex (.int .i64 fe),.ex (.bool true)] (by decide+kernel) rfl rfl rfl ⟨rb st ah 0 0 rfl,ck st k40 rfl fun _ s=>aD (bj ((-1132959)) _ (by decide) (by decide)) (a9 (az (by decide) (by decide)) (by omega)),ck st k56 rfl fun _ s _ x27=>o0 (s.f 0 rfl) x27,ck st k89 rfl fun _ s _ x28=>bA (yP _ (((pyr)*((((12*(y+3179))+(m-1):Int):Rat)/((12:Int):Rat)))+((((-1132959):Int):Rat))) 7 fe _ x28.1 x28.2 (by omega) hfe (by omega) (by omega)),(by intro a' w' hF' hb hd;have e29:=tE hd 0 rfl;exact dv0 (aP e29) rfl rfl rfl),(by intro a' w' hF' hb hd;have e25:=tE hd 0 rfl;exact dv0 (aW (v:= .int .i64 fe) e25 rfl) rfl rfl rfl),(by intro a' w' hF' hb hd;have e25:=tE hd 0 rfl;exact dv0 (aW (v:= .bool true) e25 rfl) rfl rfl rfl),(by intro a' w' hF' hb hd;have e30:=tE hd 0 rfl;exact dv0 (aO e30) rfl rfl rfl),(by intro a' w' hF' hb hd;have e31:=tE hd 0 rfl;exact dv0 (aO e31) rfl rfl rfl),trivial⟩ ?_
 intro a w9 hF bb hall
 replace st:=st.to bb
 replace hF:=rE hall hF 7 rfl rfl
 clear hall bb
 refine nq ?_
 refine oM hF 0 rfl rfl fun a hF=>?_
 refine oV hF (aq (hF.at 0 rfl) ao ab (cv (by omega) (by omega))) rfl fun a hF=>?_
 refine S.newI st hF 0 rfl dU Aa rfl rfl fun g13 w10 a st hF=>?_
 refine nq ?_
 refine oV hF (xB jo (G0 (hF.at 15 rfl) (hF.at 0 rfl) (hF.at 14 rfl) (hF.at 6 rfl))) rfl fun a hF=>?_
 refine cX st hF (rgc k90 (aC ao (hF.at 0 rfl))) (xF 15 (foD (bf r xa xb xc xd) y m-(fe-7)) _ _ (fun h=>decide ((12*(y+3179))+(m-1)≤kaV (aY r (fe-7+h) xa xb xc xd)-23470560000)) _ (by omega) (by omega) (by omega) (fun h _ _=>Fh (by first|assumption|exact⟨by omega,by omega,by omega,by omega,by omega,by omega,by omega,by omega⟩) h) (xL r (fe-7) ((12*(y+3179))+(m-1)) xa xb xc xd _ _ _ _ _ (hT.below st.bel) (by first|assumption|exact⟨by omega,by omega,by omega,by omega,by omega,by omega,by omega,by omega⟩) (by omega) (by omega) (st.bk 4 rfl) (st.bk 0 rfl) (st.bk 3 rfl) (st.bk 2 rfl))) rfl fun w11 a st hF=>?_
 refine oA hF 0 rfl rfl fun a hF=>?_
 refine nq ?_
 refine oV hF (av (hF.at 3 rfl) (bF (v:= .int .i64 (fe-7)) (st.bk 0 rfl) rfl)) rfl fun a hF=>?_
 refine oM hF 1 rfl rfl fun a hF=>?_
 refine oV hF (aq (hF.at 1 rfl) (hF.at 0 rfl) ab (bq (by omega) (by omega))) rfl fun a hF=>?_
 refine oE hF 0 rfl rfl fun a hF=>?_
 refine nr ?_
 have bel:=st.bel
 refine rt Tryz.results29 hF 0 rfl ?_
 refine⟨cm ?_,bel⟩
 omega
theorem qR (r n xa xb xc xd:Int) (w:World) (hE:ckE r xa xb xc xd≠0):
 Calls Tryz.prog 24 #[.int .i64 r,.int .i64 n,.agg #[.int .i64 xa,.int .i64 xb,.int .i64 xc,.int .i64 xd]] w (aR w (.tuple #[.agg #[.int .i64 0,.int .i64 0,.int .i64 0],.int .i64 (ckE r xa xb xc xd)])):=by
 have st:=St.start w
 refine go3 (nt:=46) Tryz.func24 rfl rfl rfl fun a hF=>?_
 refine wq ?_
 refine bx st hF 2 rfl rfl fun g5 w1 a st hF=>?_
 refine S.alloc st hF cL rfl rfl fun g6 w2 a st hF=>?_
 refine oC hF rfl fun a hF=>?_
 refine ns ?_
 refine wq ?_
 refine oM hF 3 rfl rfl fun a hF=>?_
 refine oL hF st 3 1 be rfl rfl rfl rfl fun a hF=>?_
 refine cX st hF (rgc k86 (aC (hF.at 1 rfl) (hF.at 0 rfl))) (fO r xa xb xc xd _) rfl fun w3 a st hF=>?_
 refine oA hF 0 rfl rfl fun a hF=>?_
 refine nq ?_
 refine oM hF 0 rfl rfl fun a hF=>?_
 refine oV hF (aq (hF.at 0 rfl) ao ab (aw (en (c:=true) (aU (by omega))) (by simp))) rfl fun a hF=>?_
 refine E.nil ?_
 refine wp_cond_true (hF.at 0 rfl) ?_
 refine wq ?_
 refine oV hF (bh (by simp) (vD _)) rfl fun a hF=>?_
 refine oM hF 3 rfl rfl fun a hF=>?_
 refine S.stoI st hF 0 rfl (hF.at 9 rfl) (hF.at 1 rfl) cL rfl rfl rfl fun w4 a st hF=>?_
 refine oE hF 0 rfl rfl fun a hF=>?_
 refine nr ?_
 have bel:=st.bel
 refine bodyPost_ret (kP Tryz.results24 (hF.at 9 rfl) (cD cL (st.bk 0 rfl) rfl) (hF.at 0 rfl)) hF.dfr ?_
 exact⟨rfl,bel⟩
theorem yW (r n xa xb xc xd:Int) (w:World) (hE:ckE r xa xb xc xd=0) (hx:¬(-3000000≤n∧n≤3000000)):
 Calls Tryz.prog 24 #[.int .i64 r,.int .i64 n,.agg #[.int .i64 xa,.int .i64 xb,.int .i64 xc,.int .i64 xd]] w (aR w (.tuple #[.agg #[.int .i64 0,.int .i64 0,.int .i64 0],.int .i64 2])):=by
 have st:=St.start w
 refine go3 (nt:=46) Tryz.func24 rfl rfl rfl fun a hF=>?_
 refine wq ?_
 refine bx st hF 2 rfl rfl fun g5 w1 a st hF=>?_
 refine S.alloc st hF cL rfl rfl fun g6 w2 a st hF=>?_
 refine oC hF rfl fun a hF=>?_
 refine ns ?_
 refine wq ?_
 refine oM hF 3 rfl rfl fun a hF=>?_
 refine oL hF st 3 1 be rfl rfl rfl rfl fun a hF=>?_
 refine cX st hF (rgc k86 (aC (hF.at 1 rfl) (hF.at 0 rfl))) (fO r xa xb xc xd _) rfl fun w3 a st hF=>?_
 refine oA hF 0 rfl rfl fun a hF=>?_
 refine nq ?_
 refine oM hF 0 rfl rfl fun a hF=>?_
 refine oV hF (aq (hF.at 0 rfl) ao ab (aw (en (c:=false) (aK (by omega))) (by simp))) rfl fun a hF=>?_
 refine E.nil ?_
 refine wp_cond_false (hF.at 0 rfl) ?_
 refine wp_skip ?_
 refine E.norm ?_
 refine wp_seq ?_
 refine wq ?_
 refine oM hF 10 rfl rfl fun a hF=>?_
 refine cX st hF (rgc k87 (aI (hF.at 0 rfl))) (yE n _ (by omega)) rfl fun w4 a st hF=>?_
 refine oV hF (fi (hF.at 0 rfl) (eK _ true rfl)) rfl fun a hF=>?_
 refine E.nil ?_
 refine wp_cond_true (hF.at 0 rfl) ?_
 refine wq ?_
 refine oV hF (bh (by simp) (vD _)) rfl fun a hF=>?_
 refine S.stoI st hF 0 rfl (hF.at 11 rfl) (hF.at 0 rfl) cL rfl rfl rfl fun w5 a st hF=>?_
 refine oS hF (aO ao) rfl fun a hF=>?_
 refine nr ?_
 have bel:=st.bel
 refine bodyPost_ret (kP Tryz.results24 (hF.at 11 rfl) (cD cL (st.bk 0 rfl) rfl) (hF.at 0 rfl)) hF.dfr ?_
 exact⟨rfl,bel⟩
theorem tC (r n:Int) (xa xb xc xd:Int) (w:World) (hT:bV w) (hok:cj xa xb xc xd) (hr0:0≤r) (hr1:r≤3) (hn0: -3000000≤n) (hn1:n≤3000000):
 Calls Tryz.prog 24 #[.int .i64 r,.int .i64 n,.agg #[.int .i64 xa,.int .i64 xb,.int .i64 xc,.int .i64 xd]] w (aR w (.tuple #[.agg #[.int .i64 (kaV (aY r n xa xb xc xd)/12-1955880000-3179),.int .i64 (kaV (aY r n xa xb xc xd)%12+1),.int .i64 (n-fsD (bf r xa xb xc xd) n+1)],.int .i64 0])):=by
 have hck:ckE r xa xb xc xd=0:=ss hr0 hr1 hok
 have hkc:=rA r (n:=n) hok (by omega) (by omega)
 have hfs:=eE (eS r hok) n
 have hfo:foD (bf r xa xb xc xd) (kaV (aY r n xa xb xc xd)/12-1955880000-3179) (kaV (aY r n xa xb xc xd)%12+1)=fsD (bf r xa xb xc xd) n:=Gv (eS r hok) (iB r hok) n
 have st:=St.start w
 refine go3 (nt:=46) Tryz.func24 rfl rfl rfl fun a hF=>?_
 refine wq ?_
 refine bx st hF 2 rfl rfl fun g5 w1 a st hF=>?_
 refine S.alloc st hF cL rfl rfl fun g6 w2 a st hF=>?_
 refine oC hF rfl fun a hF=>?_
 refine ns ?_
 refine wq ?_
 refine oM hF 3 rfl rfl fun a hF=>?_
 refine oL hF st 3 1 be rfl rfl rfl rfl fun a hF=>?_
 refine cX st hF (rgc k86 (aC (hF.at 1 rfl) (hF.at 0 rfl))) (fO r xa xb xc xd _) rfl fun w3 a st hF=>?_
 refine oA hF 0 rfl rfl fun a hF=>?_
 refine nq ?_
 refine oM hF 0 rfl rfl fun a hF=>?_
 refine oV hF (aq (hF.at 0 rfl) ao ab (aw (en (c:=false) (aK (by omega))) (by simp))) rfl fun a hF=>?_
 refine E.nil ?_
 refine wp_cond_false (hF.at 0 rfl) ?_
 refine wp_skip ?_
 refine E.norm ?_
 refine wp_seq ?_
 refine wq ?_
 refine oM hF 10 rfl rfl fun a hF=>?_
 refine cX st hF (rgc k87 (aI (hF.at 0 rfl))) (AC n _ (by omega) (by omega)) rfl fun w4 a st hF=>?_
 refine oV hF (fi (hF.at 0 rfl) (eK _ false rfl)) rfl fun a hF=>?_
 refine E.nil ?_
 refine wp_cond_false (hF.at 0 rfl) ?_
 refine wp_skip ?_
 refine E.norm ?_
 refine wq ?_
 refine oM hF 12 rfl rfl fun a hF=>?_
 refine oM hF 14 rfl rfl fun a hF=>?_
 refine oL hF st 13 1 be rfl rfl rfl rfl fun a hF=>?_
 refine S.ck st hF (rgc k16 (eB (hF.at 2 rfl) (hF.at 1 rfl) (hF.at 0 rfl))) (aD (ia r n xa xb xc xd _ (hT.below st.bel) (by first|assumption|exact⟨by omega,by omega,by omega,by omega,by omega,by omega,by omega,by omega⟩) (by omega) (by omega)) (eu (by first|assumption|exact⟨by omega,by omega,by omega,by omega,by omega,by omega,by omega,by omega⟩) (by omega) (by omega))) Rl.cl rfl fun vv6 w5 a st hF=>?_
 obtain⟨r8,rfl⟩:=Rq.fo (st.f 0 rfl).1
 refine S.new st hF 0 rfl ah rfl rfl rfl rfl rfl fun g9 w9 a st hF=>?_
 refine ns ?_
 refine E.rg 8 aF hF [28,29,30,31,32,33,10,11] [_,_,.ex (.int .i64 ((kaV (aY r n xa xb xc xd)/12-1955880000)-3179)),_,_,.ex (.int .i64 ((kaV (aY r n xa xb xc xd)%12)+1)),.ex (.int .i64 ((kaV (aY r n xa xb xc xd)/12-1955880000)-3179)),.ex (.int .i64 ((kaV (aY r n xa xb xc xd)%12)+1))] (by decide+kernel) rfl rfl rfl ⟨rb st ah 0 0 rfl,ck st k20 rfl fun _ s=>bA (iV _ (aY r n xa xb xc xd) 3 _ (hT.below s.bel) (s.f 0 rfl).1 (s.f 0 rfl).2 (by omega) (by omega) (by omega)),(by intro a' w' hF' hb hd;have e29:=tE hd 0 rfl;exact dv0 (aq e29 ao ab (cv (by omega) (by omega))) rfl rfl rfl),rb st ah 0 0 rfl,ck st k31 rfl fun _ s=>bA (jS _ (aY r n xa xb xc xd) 3 _ (hT.below s.bel) (s.f 0 rfl).1 (s.f 0 rfl).2 (by omega)),(by intro a' w' hF' hb hd;have e32:=tE hd 0 rfl;exact dv0 (aq e32 ao ab (bq (by omega) (by omega))) rfl rfl rfl),(by intro a' w' hF' hb hd;have e30:=tE hd 0 rfl;exact dv0 (aO e30) rfl rfl rfl),(by intro a' w' hF' hb hd;have e33:=tE hd 0 rfl;exact dv0 (aO e33) rfl rfl rfl),trivial⟩ ?_
 intro a w10 hF bb hall
 replace st:=st.to bb
 replace hF:=rE hall hF 6 rfl rfl
 replace hF:=rE hall hF 7 rfl rfl
 clear hall bb
 refine nq ?_
 refine oM hF 19 rfl rfl fun a hF=>?_
 refine oM hF 2 rfl rfl fun a hF=>?_
 refine oM hF 2 rfl rfl fun a hF=>?_
 refine oL hF st 21 2 be rfl rfl rfl rfl fun a hF=>?_
 refine cX st hF (rgc k29 (wQ (hF.at 3 rfl) (hF.at 2 rfl) (hF.at 1 rfl) (hF.at 0 rfl))) (nU r ((kaV (aY r n xa xb xc xd)/12-1955880000)-3179) ((kaV (aY r n xa xb xc xd)%12)+1) xa xb xc xd _ (hT.below st.bel) (by first|assumption|exact⟨by omega,by omega,by omega,by omega,by omega,by omega,by omega,by omega⟩) (by omega) (by omega) (by omega) (by omega) (by omega) (by omega)) rfl fun w11 a st hF=>?_
 refine oA hF 0 rfl rfl fun a hF=>?_
 refine nq ?_
 refine oM hF 7 rfl rfl fun a hF=>?_
 refine oM hF 7 rfl rfl fun a hF=>?_
 refine oM hF 28 rfl rfl fun a hF=>?_
 refine oM hF 3 rfl rfl fun a hF=>?_
 refine oV hF (aq (hF.at 1 rfl) (hF.at 0 rfl) ab (cv (by omega) (by omega))) rfl fun a hF=>?_
 refine oV hF (aq (hF.at 0 rfl) ao ab (bq (by omega) (by omega))) rfl fun a hF=>?_
 refine oV hF (bh (xg (hF.at 5 rfl) (hF.at 4 rfl) (hF.at 0 rfl)) (wX _ _ _ _)) rfl fun a hF=>?_
 refine S.stoI st hF 1 rfl (hF.at 30 rfl) (hF.at 0 rfl) cL rfl rfl rfl fun w12 a st hF=>?_
 refine oS hF (aO ao) rfl fun a hF=>?_
 refine nr ?_
 have bel:=st.bel
 refine bodyPost_ret (kP Tryz.results24 (hF.at 30 rfl) (cD cL (st.bk 1 rfl) rfl) (hF.at 0 rfl)) hF.dfr ?_
 refine⟨?_,bel⟩
 rw[hfo]
theorem vW (r y m d xa xb xc xd:Int) (w:World) (hE:ckE r xa xb xc xd≠0):
 Calls Tryz.prog 25 #[.int .i64 r,.agg #[.int .i64 y,.int .i64 m,.int .i64 d],.agg #[.int .i64 xa,.int .i64 xb,.int .i64 xc,.int .i64 xd]] w (aR w (.tuple #[.int .i64 0,.int .i64 (ckE r xa xb xc xd)])):=by
 have st:=St.start w
 refine go3 (nt:=72) Tryz.func25 rfl rfl rfl fun a hF=>?_
 refine wq ?_
 refine bx st hF 1 rfl rfl fun g4 w1 a st hF=>?_
 refine bx st hF 3 rfl rfl fun g5 w2 a st hF=>?_
 refine oC hF rfl fun a hF=>?_
 refine oC hF rfl fun a hF=>?_
 refine ns ?_
 refine wq ?_
 refine oM hF 4 rfl rfl fun a hF=>?_
 refine oL hF st 3 0 be rfl rfl rfl rfl fun a hF=>?_
 refine cX st hF (rgc k86 (aC (hF.at 1 rfl) (hF.at 0 rfl))) (fO r xa xb xc xd _) rfl fun w3 a st hF=>?_
 refine oA hF 0 rfl rfl fun a hF=>?_
 refine nq ?_
 refine oM hF 0 rfl rfl fun a hF=>?_
 refine oV hF (aq (hF.at 0 rfl) ao ab (aw (en (c:=true) (aU (by omega))) (by simp))) rfl fun a hF=>?_
 refine E.nil ?_
 refine wp_cond_true (hF.at 0 rfl) ?_
 refine wq ?_
 refine oM hF 2 rfl rfl fun a hF=>?_
 refine oS hF (aO ao) rfl fun a hF=>?_
 refine oE hF 1 rfl rfl fun a hF=>?_
 refine nr ?_
 have bel:=st.bel
 refine bodyPost_ret (da Tryz.results25 (hF.at 1 rfl) (hF.at 0 rfl)) hF.dfr ?_
 exact⟨rfl,bel⟩
theorem wW (r y m d xa xb xc xd:Int) (w:World) (hE:ckE r xa xb xc xd=0) (hA:m<1∨12<m∨d<1∨32<d):
 Calls Tryz.prog 25 #[.int .i64 r,.agg #[.int .i64 y,.int .i64 m,.int .i64 d],.agg #[.int .i64 xa,.int .i64 xb,.int .i64 xc,.int .i64 xd]] w (aR w (.tuple #[.int .i64 0,.int .i64 4])):=by
 have st:=St.start w
 refine go3 (nt:=72) Tryz.func25 rfl rfl rfl fun a hF=>?_
 refine wq ?_
 refine bx st hF 1 rfl rfl fun g4 w1 a st hF=>?_
 refine bx st hF 3 rfl rfl fun g5 w2 a st hF=>?_
 refine oC hF rfl fun a hF=>?_
 refine oC hF rfl fun a hF=>?_
 refine ns ?_
 refine wq ?_
 refine oM hF 4 rfl rfl fun a hF=>?_
 refine oL hF st 3 0 be rfl rfl rfl rfl fun a hF=>?_
 refine cX st hF (rgc k86 (aC (hF.at 1 rfl) (hF.at 0 rfl))) (fO r xa xb xc xd _) rfl fun w3 a st hF=>?_
 refine oA hF 0 rfl rfl fun a hF=>?_
 refine nq ?_
 refine oM hF 0 rfl rfl fun a hF=>?_
 refine oV hF (aq (hF.at 0 rfl) ao ab (aw (en (c:=false) (aK (by omega))) (by simp))) rfl fun a hF=>?_
 refine E.nil ?_
 refine wp_cond_false (hF.at 0 rfl) ?_
 refine wp_skip ?_
 refine E.norm ?_
 refine wp_seq ?_
 refine wp_block ?_
 refine wq ?_
 refine oV hF (aA (hF.at 9 rfl) (dz (p:=1) rfl)) rfl fun a hF=>?_
 refine oV hF (av (hF.at 0 rfl) (bG (v:= .int .i64 m) (st.bk 1 rfl) rfl)) rfl fun a hF=>?_
 by_cases hc4:m<1
 ·refine oV hF (aq (hF.at 0 rfl) ao ab (aw (a6 (c:=true) (aU hc4)) (by simp))) rfl fun a hF=>?_
  refine oM hF 0 rfl rfl fun a hF=>?_
  refine E.unwanted hF (aa rfl rfl (hF.at 0 rfl) rfl) rfl rfl rfl fun a hF=>?_
  refine E.unwanted hF (aa rfl rfl (hF.at 1 rfl) rfl) rfl rfl rfl fun a hF=>?_
  refine E.unwanted hF (aa rfl rfl (hF.at 2 rfl) rfl) rfl rfl rfl fun a hF=>?_
  refine oV hF (aN (hF.at 3 rfl) ao) rfl fun a hF=>?_
  refine oM hF 0 rfl rfl fun a hF=>?_
  refine E.unwanted hF (aa rfl rfl (hF.at 0 rfl) rfl) rfl rfl rfl fun a hF=>?_
  refine E.unwanted hF (aa rfl rfl (hF.at 1 rfl) rfl) rfl rfl rfl fun a hF=>?_
  refine E.unwanted hF (aa rfl rfl (hF.at 2 rfl) rfl) rfl rfl rfl fun a hF=>?_
  refine oV hF (aN (hF.at 3 rfl) ao) rfl fun a hF=>?_
  refine oM hF 0 rfl rfl fun a hF=>?_
  refine E.unwanted hF (aa rfl rfl (hF.at 0 rfl) rfl) rfl rfl rfl fun a hF=>?_
  refine E.unwanted hF (aa rfl rfl (hF.at 1 rfl) rfl) rfl rfl rfl fun a hF=>?_
  refine E.unwanted hF (aa rfl rfl (hF.at 2 rfl) rfl) rfl rfl rfl fun a hF=>?_
  refine oV hF (aN (hF.at 3 rfl) ao) rfl fun a hF=>?_
  refine oA hF 0 rfl rfl fun a hF=>?_
  refine E.nil ?_
  refine wp_cond_true (hF.at 0 rfl) ?_
  refine wq ?_
  refine oS hF (aO ao) rfl fun a hF=>?_
  refine oS hF (aO ao) rfl fun a hF=>?_
  refine nr ?_
  have bel:=st.bel
  refine bodyPost_ret (da Tryz.results25 (hF.at 1 rfl) (hF.at 0 rfl)) hF.dfr ?_
  exact⟨rfl,bel⟩
 ·refine oV hF (aq (hF.at 0 rfl) ao ab (aw (a6 (c:=false) (aK hc4)) (by simp))) rfl fun a hF=>?_
  refine oM hF 0 rfl rfl fun a hF=>?_
  refine E.opvg hF (aA (hF.at 13 rfl) (dz (p:=1) rfl)) (aa rfl rfl (hF.at 0 rfl) rfl) rfl rfl rfl fun a hF=>?_
  refine E.opvg hF (av (hF.at 0 rfl) (bG (v:= .int .i64 m) (st.bk 1 rfl) rfl)) (aa rfl rfl (hF.at 1 rfl) rfl) rfl rfl rfl fun a hF=>?_
  by_cases hc5:12<m
  ·refine E.opvg hF (aq (hF.at 0 rfl) ao ab (aw (bS (c:=true) (aU hc5)) (by simp))) (aa rfl rfl (hF.at 2 rfl) rfl) rfl rfl rfl fun a hF=>?_
   refine oV hF (aQ (hF.at 3 rfl) (hF.at 0 rfl)) rfl fun a hF=>?_
   refine oM hF 0 rfl rfl fun a hF=>?_
   refine E.unwanted hF (aa rfl rfl (hF.at 0 rfl) rfl) rfl rfl rfl fun a hF=>?_
   refine E.unwanted hF (aa rfl rfl (hF.at 1 rfl) rfl) rfl rfl rfl fun a hF=>?_
   refine E.unwanted hF (aa rfl rfl (hF.at 2 rfl) rfl) rfl rfl rfl fun a hF=>?_
   refine oV hF (aN (hF.at 3 rfl) ao) rfl fun a hF=>?_
   refine oM hF 0 rfl rfl fun a hF=>?_
   refine E.unwanted hF (aa rfl rfl (hF.at 0 rfl) rfl) rfl rfl rfl fun a hF=>?_
   refine E.unwanted hF (aa rfl rfl (hF.at 1 rfl) rfl) rfl rfl rfl fun a hF=>?_
   refine E.unwanted hF (aa rfl rfl (hF.at 2 rfl) rfl) rfl rfl rfl fun a hF=>?_
   refine oV hF (aN (hF.at 3 rfl) ao) rfl fun a hF=>?_
   refine oA hF 0 rfl rfl fun a hF=>?_
   refine E.nil ?_
   refine wp_cond_true (hF.at 0 rfl) ?_
   refine wq ?_
   refine oS hF (aO ao) rfl fun a hF=>?_
   refine oS hF (aO ao) rfl fun a hF=>?_
   refine nr ?_
   have bel:=st.bel
   refine bodyPost_ret (da Tryz.results25 (hF.at 1 rfl) (hF.at 0 rfl)) hF.dfr ?_
   exact⟨rfl,bel⟩
  ·refine E.opvg hF (aq (hF.at 0 rfl) ao ab (aw (bS (c:=false) (aK hc5)) (by simp))) (aa rfl rfl (hF.at 2 rfl) rfl) rfl rfl rfl fun a hF=>?_
   refine oV hF (aQ (hF.at 3 rfl) (hF.at 0 rfl)) rfl fun a hF=>?_
   refine oM hF 0 rfl rfl fun a hF=>?_
   refine E.opvg hF (aA (hF.at 18 rfl) (di (p:=2) rfl)) (aa rfl rfl (hF.at 0 rfl) rfl) rfl rfl rfl fun a hF=>?_
   refine E.opvg hF (av (hF.at 0 rfl) (bG (v:= .int .i64 d) (st.bk 1 rfl) rfl)) (aa rfl rfl (hF.at 1 rfl) rfl) rfl rfl rfl fun a hF=>?_
   by_cases hc6:d<1
   ·refine E.opvg hF (aq (hF.at 0 rfl) ao ab (aw (a6 (c:=true) (aU hc6)) (by simp))) (aa rfl rfl (hF.at 2 rfl) rfl) rfl rfl rfl fun a hF=>?_
    refine oV hF (aQ (hF.at 3 rfl) (hF.at 0 rfl)) rfl fun a hF=>?_
    refine oM hF 0 rfl rfl fun a hF=>?_
    refine E.unwanted hF (aa rfl rfl (hF.at 0 rfl) rfl) rfl rfl rfl fun a hF=>?_
    refine E.unwanted hF (aa rfl rfl (hF.at 1 rfl) rfl) rfl rfl rfl fun a hF=>?_
    refine E.unwanted hF (aa rfl rfl (hF.at 2 rfl) rfl) rfl rfl rfl fun a hF=>?_
    refine oV hF (aN (hF.at 3 rfl) ao) rfl fun a hF=>?_
    refine oA hF 0 rfl rfl fun a hF=>?_
    refine E.nil ?_
    refine wp_cond_true (hF.at 0 rfl) ?_
    refine wq ?_
    refine oS hF (aO ao) rfl fun a hF=>?_
    refine oS hF (aO ao) rfl fun a hF=>?_
    refine nr ?_
    have bel:=st.bel
    refine bodyPost_ret (da Tryz.results25 (hF.at 1 rfl) (hF.at 0 rfl)) hF.dfr ?_
    exact⟨rfl,bel⟩
   ·refine E.opvg hF (aq (hF.at 0 rfl) ao ab (aw (a6 (c:=false) (aK hc6)) (by simp))) (aa rfl rfl (hF.at 2 rfl) rfl) rfl rfl rfl fun a hF=>?_
    refine oV hF (aQ (hF.at 3 rfl) (hF.at 0 rfl)) rfl fun a hF=>?_
    refine oM hF 0 rfl rfl fun a hF=>?_
    refine E.opvg hF (aA (hF.at 23 rfl) (di (p:=2) rfl)) (aa rfl rfl (hF.at 0 rfl) rfl) rfl rfl rfl fun a hF=>?_
    refine E.opvg hF (av (hF.at 0 rfl) (bG (v:= .int .i64 d) (st.bk 1 rfl) rfl)) (aa rfl rfl (hF.at 1 rfl) rfl) rfl rfl rfl fun a hF=>?_
    by_cases hc7:32<d
    ·refine E.opvg hF (aq (hF.at 0 rfl) ao ab (aw (bS (c:=true) (aU hc7)) (by simp))) (aa rfl rfl (hF.at 2 rfl) rfl) rfl rfl rfl fun a hF=>?_
     refine oV hF (aQ (hF.at 3 rfl) (hF.at 0 rfl)) rfl fun a hF=>?_
     refine oA hF 0 rfl rfl fun a hF=>?_
     refine E.nil ?_
     refine wp_cond_true (hF.at 0 rfl) ?_
     refine wq ?_
     refine oS hF (aO ao) rfl fun a hF=>?_
     refine oS hF (aO ao) rfl fun a hF=>?_
     refine nr ?_
     have bel:=st.bel
     refine bodyPost_ret (da Tryz.results25 (hF.at 1 rfl) (hF.at 0 rfl)) hF.dfr ?_
     exact⟨rfl,bel⟩
    ·exfalso;omega
theorem wj (r y m d xa xb xc xd:Int) (w:World) (hE:ckE r xa xb xc xd=0) (hm0:1≤m) (hm1:m≤12) (hd0:1≤d) (hd1:d≤32) (hY:y< -9000∨9000<y):
 Calls Tryz.prog 25 #[.int .i64 r,.agg #[.int .i64 y,.int .i64 m,.int .i64 d],.agg #[.int .i64 xa,.int .i64 xb,.int .i64 xc,.int .i64 xd]] w (aR w (.tuple #[.int .i64 0,.int .i64 2])):=by
 have st:=St.start w
 refine go3 (nt:=72) Tryz.func25 rfl rfl rfl fun a hF=>?_
 refine wq ?_
 refine bx st hF 1 rfl rfl fun g4 w1 a st hF=>?_
 refine bx st hF 3 rfl rfl fun g5 w2 a st hF=>?_
 refine oC hF rfl fun a hF=>?_
 refine oC hF rfl fun a hF=>?_
 refine ns ?_
 refine wq ?_
 refine oM hF 4 rfl rfl fun a hF=>?_
 refine oL hF st 3 0 be rfl rfl rfl rfl fun a hF=>?_
 refine cX st hF (rgc k86 (aC (hF.at 1 rfl) (hF.at 0 rfl))) (fO r xa xb xc xd _) rfl fun w3 a st hF=>?_
 refine oA hF 0 rfl rfl fun a hF=>?_
 refine nq ?_
 refine oM hF 0 rfl rfl fun a hF=>?_
 refine oV hF (aq (hF.at 0 rfl) ao ab (aw (en (c:=false) (aK (by omega))) (by simp))) rfl fun a hF=>?_
 refine E.nil ?_
 refine wp_cond_false (hF.at 0 rfl) ?_
 refine wp_skip ?_
 refine E.norm ?_
 refine wp_seq ?_
 refine wp_block ?_
 refine wq ?_
 refine oV hF (aA (hF.at 9 rfl) (dz (p:=1) rfl)) rfl fun a hF=>?_
 refine oV hF (av (hF.at 0 rfl) (bG (v:= .int .i64 m) (st.bk 1 rfl) rfl)) rfl fun a hF=>?_
 refine oV hF (aq (hF.at 0 rfl) ao ab (aw (a6 (c:=false) (aK (by omega))) (by simp))) rfl fun a hF=>?_
 refine oM hF 0 rfl rfl fun a hF=>?_
 refine E.opvg hF (aA (hF.at 13 rfl) (dz (p:=1) rfl)) (aa rfl rfl (hF.at 0 rfl) rfl) rfl rfl rfl fun a hF=>?_
 refine E.opvg hF (av (hF.at 0 rfl) (bG (v:= .int .i64 m) (st.bk 1 rfl) rfl)) (aa rfl rfl (hF.at 1 rfl) rfl) rfl rfl rfl fun a hF=>?_
 refine E.opvg hF (aq (hF.at 0 rfl) ao ab (aw (bS (c:=false) (aK (by omega))) (by simp))) (aa rfl rfl (hF.at 2 rfl) rfl) rfl rfl rfl fun a hF=>?_
 refine oV hF (aQ (hF.at 3 rfl) (hF.at 0 rfl)) rfl fun a hF=>?_
 refine oM hF 0 rfl rfl fun a hF=>?_
 refine E.opvg hF (aA (hF.at 18 rfl) (di (p:=2) rfl)) (aa rfl rfl (hF.at 0 rfl) rfl) rfl rfl rfl fun a hF=>?_
 refine E.opvg hF (av (hF.at 0 rfl) (bG (v:= .int .i64 d) (st.bk 1 rfl) rfl)) (aa rfl rfl (hF.at 1 rfl) rfl) rfl rfl rfl fun a hF=>?_
 refine E.opvg hF (aq (hF.at 0 rfl) ao ab (aw (a6 (c:=false) (aK (by omega))) (by simp))) (aa rfl rfl (hF.at 2 rfl) rfl) rfl rfl rfl fun a hF=>?_
 refine oV hF (aQ (hF.at 3 rfl) (hF.at 0 rfl)) rfl fun a hF=>?_
 refine oM hF 0 rfl rfl fun a hF=>?_
 refine E.opvg hF (aA (hF.at 23 rfl) (di (p:=2) rfl)) (aa rfl rfl (hF.at 0 rfl) rfl) rfl rfl rfl fun a hF=>?_
 refine E.opvg hF (av (hF.at 0 rfl) (bG (v:= .int .i64 d) (st.bk 1 rfl) rfl)) (aa rfl rfl (hF.at 1 rfl) rfl) rfl rfl rfl fun a hF=>?_
 refine E.opvg hF (aq (hF.at 0 rfl) ao ab (aw (bS (c:=false) (aK (by omega))) (by simp))) (aa rfl rfl (hF.at 2 rfl) rfl) rfl rfl rfl fun a hF=>?_
 refine oV hF (aQ (hF.at 3 rfl) (hF.at 0 rfl)) rfl fun a hF=>?_
 refine oA hF 0 rfl rfl fun a hF=>?_
 refine E.nil ?_
 refine wp_cond_false (hF.at 0 rfl) ?_
 refine wq ?_
 refine oV hF (aA (hF.at 28 rfl) (eQ (p:=0) rfl)) rfl fun a hF=>?_
 refine oV hF (av (hF.at 0 rfl) (bF (v:= .int .i64 y) (st.bk 1 rfl) rfl)) rfl fun a hF=>?_
 by_cases hc4:y<(-9000)
 ·refine oV hF (aq (hF.at 0 rfl) ao ab (aw (a6 (c:=true) (aU hc4)) (by simp))) rfl fun a hF=>?_
  refine oM hF 0 rfl rfl fun a hF=>?_
  refine E.unwanted hF (aa rfl rfl (hF.at 0 rfl) rfl) rfl rfl rfl fun a hF=>?_
  refine E.unwanted hF (aa rfl rfl (hF.at 1 rfl) rfl) rfl rfl rfl fun a hF=>?_
  refine E.unwanted hF (aa rfl rfl (hF.at 2 rfl) rfl) rfl rfl rfl fun a hF=>?_
  refine oV hF (aN (hF.at 3 rfl) ao) rfl fun a hF=>?_
  refine oA hF 0 rfl rfl fun a hF=>?_
  refine E.nil ?_
  refine wp_cond_true (hF.at 0 rfl) ?_
  refine wq ?_
  refine oS hF (aO ao) rfl fun a hF=>?_
  refine oS hF (aO ao) rfl fun a hF=>?_
  refine nr ?_
  have bel:=st.bel
  refine bodyPost_ret (da Tryz.results25 (hF.at 1 rfl) (hF.at 0 rfl)) hF.dfr ?_
  exact⟨rfl,bel⟩
 ·refine oV hF (aq (hF.at 0 rfl) ao ab (aw (a6 (c:=false) (aK hc4)) (by simp))) rfl fun a hF=>?_
  refine oM hF 0 rfl rfl fun a hF=>?_
  refine E.opvg hF (aA (hF.at 32 rfl) (eQ (p:=0) rfl)) (aa rfl rfl (hF.at 0 rfl) rfl) rfl rfl rfl fun a hF=>?_
  refine E.opvg hF (av (hF.at 0 rfl) (bF (v:= .int .i64 y) (st.bk 1 rfl) rfl)) (aa rfl rfl (hF.at 1 rfl) rfl) rfl rfl rfl fun a hF=>?_
  by_cases hc5:9000<y
  ·refine E.opvg hF (aq (hF.at 0 rfl) ao ab (aw (bS (c:=true) (aU hc5)) (by simp))) (aa rfl rfl (hF.at 2 rfl) rfl) rfl rfl rfl fun a hF=>?_
   refine oV hF (aQ (hF.at 3 rfl) (hF.at 0 rfl)) rfl fun a hF=>?_
   refine oA hF 0 rfl rfl fun a hF=>?_
   refine E.nil ?_
   refine wp_cond_true (hF.at 0 rfl) ?_
   refine wq ?_
   refine oS hF (aO ao) rfl fun a hF=>?_
   refine oS hF (aO ao) rfl fun a hF=>?_
   refine nr ?_
   have bel:=st.bel
   refine bodyPost_ret (da Tryz.results25 (hF.at 1 rfl) (hF.at 0 rfl)) hF.dfr ?_
   exact⟨rfl,bel⟩
  ·exfalso;omega
theorem rc (r y m d:Int) (xa xb xc xd:Int) (w:World) (hT:bV w) (hok:cj xa xb xc xd) (hr0:0≤r) (hr1:r≤3) (hm0:1≤m) (hm1:m≤12) (hd0:1≤d) (hd1:d≤32) (hy0: -9000≤y) (hy1:y≤9000):
 Calls Tryz.prog 25 #[.int .i64 r,.agg #[.int .i64 y,.int .i64 m,.int .i64 d],.agg #[.int .i64 xa,.int .i64 xb,.int .i64 xc,.int .i64 xd]] w (aR w (.tuple #[.int .i64 (soN (bf r xa xb xc xd) y m d),.int .i64 (soE (bf r xa xb xc xd) y m d)])):=by
 have hck:ckE r xa xb xc xd=0:=ss hr0 hr1 hok
 have hfb:=Ic (eS r hok) (iB r hok) hy0 hy1 hm0 hm1
 have st:=St.start w
 refine go3 (nt:=72) Tryz.func25 rfl rfl rfl fun a hF=>?_
 refine wq ?_
 refine bx st hF 1 rfl rfl fun g4 w1 a st hF=>?_
 refine bx st hF 3 rfl rfl fun g5 w2 a st hF=>?_
 refine oC hF rfl fun a hF=>?_
 refine oC hF rfl fun a hF=>?_
 refine ns ?_
 refine wq ?_
 refine oM hF 4 rfl rfl fun a hF=>?_
 refine oL hF st 3 0 be rfl rfl rfl rfl fun a hF=>?_
 refine cX st hF (rgc k86 (aC (hF.at 1 rfl) (hF.at 0 rfl))) (fO r xa xb xc xd _) rfl fun w3 a st hF=>?_
 refine oA hF 0 rfl rfl fun a hF=>?_
 refine nq ?_
 refine oM hF 0 rfl rfl fun a hF=>?_
 refine oV hF (aq (hF.at 0 rfl) ao ab (aw (en (c:=false) (aK (by omega))) (by simp))) rfl fun a hF=>?_
 refine E.nil ?_
 refine wp_cond_false (hF.at 0 rfl) ?_
 refine wp_skip ?_
 refine E.norm ?_
 refine wp_seq ?_
 refine wp_block ?_
 refine wq ?_
 refine oV hF (aA (hF.at 9 rfl) (dz (p:=1) rfl)) rfl fun a hF=>?_
 refine oV hF (av (hF.at 0 rfl) (bG (v:= .int .i64 m) (st.bk 1 rfl) rfl)) rfl fun a hF=>?_
 refine oV hF (aq (hF.at 0 rfl) ao ab (aw (a6 (c:=false) (aK (by omega))) (by simp))) rfl fun a hF=>?_
 refine oM hF 0 rfl rfl fun a hF=>?_
 refine E.opvg hF (aA (hF.at 13 rfl) (dz (p:=1) rfl)) (aa rfl rfl (hF.at 0 rfl) rfl) rfl rfl rfl fun a hF=>?_
 refine E.opvg hF (av (hF.at 0 rfl) (bG (v:= .int .i64 m) (st.bk 1 rfl) rfl)) (aa rfl rfl (hF.at 1 rfl) rfl) rfl rfl rfl fun a hF=>?_
 refine E.opvg hF (aq (hF.at 0 rfl) ao ab (aw (bS (c:=false) (aK (by omega))) (by simp))) (aa rfl rfl (hF.at 2 rfl) rfl) rfl rfl rfl fun a hF=>?_
 refine oV hF (aQ (hF.at 3 rfl) (hF.at 0 rfl)) rfl fun a hF=>?_
 refine oM hF 0 rfl rfl fun a hF=>?_
 refine E.opvg hF (aA (hF.at 18 rfl) (di (p:=2) rfl)) (aa rfl rfl (hF.at 0 rfl) rfl) rfl rfl rfl fun a hF=>?_
 refine E.opvg hF (av (hF.at 0 rfl) (bG (v:= .int .i64 d) (st.bk 1 rfl) rfl)) (aa rfl rfl (hF.at 1 rfl) rfl) rfl rfl rfl fun a hF=>?_
 refine E.opvg hF (aq (hF.at 0 rfl) ao ab (aw (a6 (c:=false) (aK (by omega))) (by simp))) (aa rfl rfl (hF.at 2 rfl) rfl) rfl rfl rfl fun a hF=>?_
 refine oV hF (aQ (hF.at 3 rfl) (hF.at 0 rfl)) rfl fun a hF=>?_
 refine oM hF 0 rfl rfl fun a hF=>?_
 refine E.opvg hF (aA (hF.at 23 rfl) (di (p:=2) rfl)) (aa rfl rfl (hF.at 0 rfl) rfl) rfl rfl rfl fun a hF=>?_
 refine E.opvg hF (av (hF.at 0 rfl) (bG (v:= .int .i64 d) (st.bk 1 rfl) rfl)) (aa rfl rfl (hF.at 1 rfl) rfl) rfl rfl rfl fun a hF=>?_
 refine E.opvg hF (aq (hF.at 0 rfl) ao ab (aw (bS (c:=false) (aK (by omega))) (by simp))) (aa rfl rfl (hF.at 2 rfl) rfl) rfl rfl rfl fun a hF=>?_
 refine oV hF (aQ (hF.at 3 rfl) (hF.at 0 rfl)) rfl fun a hF=>?_
 refine oA hF 0 rfl rfl fun a hF=>?_
 refine E.nil ?_
 refine wp_cond_false (hF.at 0 rfl) ?_
 refine wq ?_
 refine oV hF (aA (hF.at 28 rfl) (eQ (p:=0) rfl)) rfl fun a hF=>?_
 refine oV hF (av (hF.at 0 rfl) (bF (v:= .int .i64 y) (st.bk 1 rfl) rfl)) rfl fun a hF=>?_
 refine oV hF (aq (hF.at 0 rfl) ao ab (aw (a6 (c:=false) (aK (by omega))) (by simp))) rfl fun a hF=>?_
 refine oM hF 0 rfl rfl fun a hF=>?_
 refine E.opvg hF (aA (hF.at 32 rfl) (eQ (p:=0) rfl)) (aa rfl rfl (hF.at 0 rfl) rfl) rfl rfl rfl fun a hF=>?_
 refine E.opvg hF (av (hF.at 0 rfl) (bF (v:= .int .i64 y) (st.bk 1 rfl) rfl)) (aa rfl rfl (hF.at 1 rfl) rfl) rfl rfl rfl fun a hF=>?_
 refine E.opvg hF (aq (hF.at 0 rfl) ao ab (aw (bS (c:=false) (aK (by omega))) (by simp))) (aa rfl rfl (hF.at 2 rfl) rfl) rfl rfl rfl fun a hF=>?_
 refine oV hF (aQ (hF.at 3 rfl) (hF.at 0 rfl)) rfl fun a hF=>?_
 refine oA hF 0 rfl rfl fun a hF=>?_
 refine E.nil ?_
 refine wp_cond_false (hF.at 0 rfl) ?_
 refine wp_skip ?_
 refine E.blk ?_
 refine E.norm ?_
 refine wp_seq ?_
 refine E.rg 12 aF hF [46,47,48,49,50,51,52,53,54,55,56,9] [_,_,.ex (.int .i64 y),_,.ex (.int .i64 m),_,_,_,.ex (.int .i64 d),.ex (.int .i64 (d-1)),.ex (.int .i64 ((foD (bf r xa xb xc xd) y m)+(d-1))),.ex (.int .i64 ((foD (bf r xa xb xc xd) y m)+(d-1)))] (by decide+kernel) rfl rfl rfl ⟨rm 38 rfl,rd rfl rfl fun a' w' hF' hb=>(aA (hF'.at 37 rfl) (eQ (p:=0) rfl)),(by intro a' w' hF' hb hd;have e47:=tE hd 0 rfl;exact dv0 (av e47 (bF (v:= .int .i64 y) ((st.bk 1 rfl).below hb) rfl)) rfl rfl rfl),rd rfl rfl fun a' w' hF' hb=>(aA (hF'.at 37 rfl) (dz (p:=1) rfl)),(by intro a' w' hF' hb hd;have e49:=tE hd 0 rfl;exact dv0 (av e49 (bG (v:= .int .i64 m) ((st.bk 1 rfl).below hb) rfl)) rfl rfl rfl),rb st be 36 0 rfl,ck st k29 rfl fun _ s=>bA (nU r y m xa xb xc xd _ (hT.below s.bel) (by first|assumption|exact⟨by omega,by omega,by omega,by omega,by omega,by omega,by omega,by omega⟩) (by omega) (by omega) (by omega) (by omega) (by omega) (by omega)),rd rfl rfl fun a' w' hF' hb=>(aA (hF'.at 37 rfl) (di (p:=2) rfl)),(by intro a' w' hF' hb hd;have e53:=tE hd 0 rfl;exact dv0 (av e53 (bG (v:= .int .i64 d) ((st.bk 1 rfl).below hb) rfl)) rfl rfl rfl),(by intro a' w' hF' hb hd;have e54:=tE hd 0 rfl;exact dv0 (aq e54 ao ab (cv (by omega) (by omega))) rfl rfl rfl),(by intro a' w' hF' hb hd;have e52:=tE hd 0 rfl;have e55:=tE hd 1 rfl;exact dv0 (aq e52 e55 ab (bq (by omega) (by omega))) rfl rfl rfl),(by intro a' w' hF' hb hd;have e56:=tE hd 0 rfl;exact dv0 (aO e56) rfl rfl rfl),trivial⟩ ?_
 intro a w4 hF bb hall
 replace st:=st.to bb
 replace hF:=rE hall hF 11 rfl rfl
 clear hall bb
 obtain⟨n,hn⟩:∃z:Int,z=(foD (bf r xa xb xc xd) y m)+(d-1):=⟨_,rfl⟩
 rw[←hn] at hF
 refine ns ?_
 refine wq ?_
 refine oM hF 39 rfl rfl fun a hF=>?_
 refine oM hF 1 rfl rfl fun a hF=>?_
 refine oL hF st 39 0 be rfl rfl rfl rfl fun a hF=>?_
 by_cases hc5: -3000000≤n∧n≤3000000
 ·refine cX st hF (rgc k24 (eB (hF.at 2 rfl) (hF.at 1 rfl) (hF.at 0 rfl))) (tC r n xa xb xc xd _ (hT.below st.bel) (by first|assumption|exact⟨by omega,by omega,by omega,by omega,by omega,by omega,by omega,by omega⟩) (by omega) (by omega) (by omega) (by omega)) rfl fun w6 a st hF=>?_
  refine oM hF 0 rfl rfl fun a hF=>?_
  refine oV hF (aW (v:= .agg #[.int .i64 (kaV (aY r n xa xb xc xd)/12-1955880000-3179),.int .i64 (kaV (aY r n xa xb xc xd)%12+1),.int .i64 (n-fsD (bf r xa xb xc xd) n+1)]) (hF.at 0 rfl) rfl) rfl fun a hF=>?_
  refine oV hF (aW (v:= .int .i64 0) (hF.at 1 rfl) rfl) rfl fun a hF=>?_
  refine S.new st hF 1 rfl cL rfl rfl rfl rfl rfl fun g10 w7 a st hF=>?_
  refine oA hF 1 rfl rfl fun a hF=>?_
  refine nq ?_
  refine oM hF 0 rfl rfl fun a hF=>?_
  refine oV hF (aq (hF.at 0 rfl) ao ab (aw (en (c:=false) (by decide)) (by simp))) rfl fun a hF=>?_
  refine oM hF 0 rfl rfl fun a hF=>?_
  refine E.opvg hF (av (hF.at 4 rfl) (cD cL (st.bk 0 rfl) rfl)) (aa rfl rfl (hF.at 0 rfl) rfl) rfl rfl rfl fun a hF=>?_
  refine E.opvg hF (av (hF.at 51 rfl) (cD cL (st.bk 2 rfl) rfl)) (aa rfl rfl (hF.at 1 rfl) rfl) rfl rfl rfl fun a hF=>?_
  by_cases hc8:(kaV (aY r n xa xb xc xd)/12-1955880000-3179)=y∧(kaV (aY r n xa xb xc xd)%12+1)=m∧(n-fsD (bf r xa xb xc xd) n+1)=d
  ·refine E.opvg hF (aq (hF.at 1 rfl) (hF.at 0 rfl) yj (vH (aU hc8))) (aa rfl rfl (hF.at 2 rfl) rfl) rfl rfl rfl fun a hF=>?_
   refine oV hF (aQ (hF.at 3 rfl) (hF.at 0 rfl)) rfl fun a hF=>?_
   refine E.nil ?_
   refine wp_cond_false (hF.at 0 rfl) ?_
   refine wp_skip ?_
   refine E.norm ?_
   refine wq ?_
   refine oM hF 16 rfl rfl fun a hF=>?_
   refine oE hF 0 rfl rfl fun a hF=>?_
   refine oS hF (aO ao) rfl fun a hF=>?_
   refine nr ?_
   have bel:=st.bel
   refine bodyPost_ret (da Tryz.results25 (hF.at 1 rfl) (hF.at 0 rfl)) hF.dfr ?_
   have hfx:=Ac (show n=soX (bf r xa xb xc xd) y m d from hn) (by omega) hc8
   exact⟨il hfx.1 hfx.2,bel⟩
  ·refine E.opvg hF (aq (hF.at 1 rfl) (hF.at 0 rfl) yj (vH (aK hc8))) (aa rfl rfl (hF.at 2 rfl) rfl) rfl rfl rfl fun a hF=>?_
   refine oV hF (aQ (hF.at 3 rfl) (hF.at 0 rfl)) rfl fun a hF=>?_
   refine E.nil ?_
   refine wp_cond_true (hF.at 0 rfl) ?_
   refine wq ?_
   refine oS hF (aO ao) rfl fun a hF=>?_
   refine oS hF (aO ao) rfl fun a hF=>?_
   refine nr ?_
   have bel:=st.bel
   refine bodyPost_ret (da Tryz.results25 (hF.at 1 rfl) (hF.at 0 rfl)) hF.dfr ?_
   have hfx:=Fp (show n=soX (bf r xa xb xc xd) y m d from hn) (by omega) hc8
   exact⟨il hfx.1 hfx.2,bel⟩
 ·refine cX st hF (rgc k24 (eB (hF.at 2 rfl) (hF.at 1 rfl) (hF.at 0 rfl))) (yW r n xa xb xc xd _ (by omega) (by omega)) rfl fun w9 a st hF=>?_
  refine oM hF 0 rfl rfl fun a hF=>?_
  refine oV hF (aW (v:= .agg #[.int .i64 0,.int .i64 0,.int .i64 0]) (hF.at 0 rfl) rfl) rfl fun a hF=>?_
  refine oV hF (aW (v:= .int .i64 2) (hF.at 1 rfl) rfl) rfl fun a hF=>?_
  refine S.new st hF 1 rfl cL rfl rfl rfl rfl rfl fun g10 w10 a st hF=>?_
  refine oA hF 1 rfl rfl fun a hF=>?_
  refine nq ?_
  refine oM hF 0 rfl rfl fun a hF=>?_
  refine oV hF (aq (hF.at 0 rfl) ao ab (aw (en (c:=true) (by decide)) (by simp))) rfl fun a hF=>?_
  refine oM hF 0 rfl rfl fun a hF=>?_
  refine E.unwanted hF (aa rfl rfl (hF.at 0 rfl) rfl) rfl rfl rfl fun a hF=>?_
  refine E.unwanted hF (aa rfl rfl (hF.at 1 rfl) rfl) rfl rfl rfl fun a hF=>?_
  refine E.unwanted hF (aa rfl rfl (hF.at 2 rfl) rfl) rfl rfl rfl fun a hF=>?_
  refine oV hF (aN (hF.at 3 rfl) ao) rfl fun a hF=>?_
  refine E.nil ?_
  refine wp_cond_true (hF.at 0 rfl) ?_
  refine wq ?_
  refine oS hF (aO ao) rfl fun a hF=>?_
  refine oS hF (aO ao) rfl fun a hF=>?_
  refine nr ?_
  have bel:=st.bel
  refine bodyPost_ret (da Tryz.results25 (hF.at 1 rfl) (hF.at 0 rfl)) hF.dfr ?_
  have hfx:=sD (show n=soX (bf r xa xb xc xd) y m d from hn) (by omega)
  exact⟨il hfx.1 hfx.2,bel⟩
theorem wG (r y m d xa xb xc xd n e:Int) (w:World) (hT:bV w) (hok:cj xa xb xc xd) (hr0:0≤r) (hr1:r≤3) (hm0:1≤m) (hm1:m≤12) (hd0:1≤d) (hd1:d≤32) (hy0: -9000≤y) (hy1:y≤9000) (h1:soN (bf r xa xb xc xd) y m d=n) (h2:soE (bf r xa xb xc xd) y m d=e):
 Calls Tryz.prog 25 #[.int .i64 r,.agg #[.int .i64 y,.int .i64 m,.int .i64 d],.agg #[.int .i64 xa,.int .i64 xb,.int .i64 xc,.int .i64 xd]] w (aR w (.tuple #[.int .i64 n,.int .i64 e])):=by
 subst h1 h2
 exact rc r y m d xa xb xc xd w hT hok hr0 hr1 hm0 hm1 hd0 hd1 hy0 hy1
end Go.Proofs.YtnljadejcfgmaaaGreatDoor
