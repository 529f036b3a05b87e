import Derived.Test.YtgdpkknapcgcbaaGreatDoorKD19
import Derived.Test.YtgdpkknapcgcbaaGreatDoorKD21
import Derived.Test.YtgdpkknapcgcbaaGreatDoorKD36
namespace Go.Proofs.YtgdpkknapcgcbaaGreatDoor
open Go.RowKit
set_option maxRecDepth 100000
set_option linter.unusedVariables false
set_option maxHeartbeats 8000000
theorem CY:(Tryz.f107.name == "runtime.NumGoroutine")=false/\Tryz.f107.body.isNone=false:=⟨by decide+kernel,by kernel_rfl⟩
theorem jt (v1:Value) (qt:Rat) (k:Nat) (w:World) (hT:aY w) (h1:Rq w v1 qt) (hl:ag qt k) (hk:k<=100):CV 34 #[v1] w (iv (kaV qt%12)):=by
 rw[<-uU]
 exact qX v1 qt k w hT h1 hl hk
theorem kI (r n:Int) (xa xb xc xd:Int) (w:World) (hT:aY w) (hok:aZ xa xb xc xd) (hn0: -3900000<=n) (hn1:n<=3900000):
 CQ 109 #[iv r,iv n,.agg #[iv xa,iv xb,iv xc,iv xd]] w (bw r n xa xb xc xd):=by
 have hok1:=hok.b0
 have hok2:=hok.b1
 have hok3:=hok.d0
 have hok4:=hok.d1
 refine gs3 (nt:=40) Tryz.func109 rfl rfl rfl fun a st hF=>wq<|bx st hF 2 rfl rfl fun g5 w1 a st hF=>S.alloc st hF aa rfl rfl fun g6 w2 a st hF=>ns<|wq<|oM hF 2 rfl rfl fun a hF=>E.nil<|wp_block<|wq ?_
 by_cases hc3:r=0
 ·refine oT hF 0 (bq (c:=true) (aJ hc3)) rfl rfl fun a hF=>oA hF 0 rfl rfl fun a hF=>E.nil<|wp_cond_true hF.o<|wq<|oM hF 6 rfl rfl fun a hF=>oV hF (ao hF.o ah ab (aU (by omega) (by omega))) rfl fun a hF=>oL hF st 6 1 aO rfl rfl rfl rfl fun a hF=>S.ck st hF (rgc k55 (aK hF.p hF.o)) (aB (eX (n+1) xa xb xc xd _ (hT.below st.bel) (by first|assumption|constructor<;>omega) (by omega) (by omega)) (fX (by first|assumption|constructor<;>omega) (by omega) (by omega))) Rl.cl rfl fun vv5 w4 a st hF=>?_
  obtain⟨r7,rfl⟩:=Rq.fo (st.f 0 rfl).1
  refine so st hF 0 7 0 aa rfl rfl rfl rfl fun w8 a st hF=>nr<|rs Tryz.results109 st hF 7 0 aa rfl rfl rfl ?_
  exact⟨_,rfl,Rq.castM (st.f 0 rfl).1 (Cr hc3),st.bel⟩
 ·refine oT hF 0 (bq (c:=false) (aH hc3)) rfl rfl fun a hF=>oA hF 0 rfl rfl fun a hF=>E.nil<|wp_cond_false hF.o<|wq ?_
  by_cases hc9:r=1
  ·refine oT hF 2 (bq (c:=true) (aJ hc9)) rfl rfl fun a hF=>oA hF 0 rfl rfl fun a hF=>E.nil<|wp_cond_true hF.o<|wq<|oM hF 8 rfl rfl fun a hF=>oL hF st 7 1 aO rfl rfl rfl rfl fun a hF=>S.ck st hF (rgc k57 (aK hF.p hF.o)) (aB (mg n xa xb xc xd _ (hT.below st.bel) (by first|assumption|constructor<;>omega) (by omega) (by omega)) (k7 (by first|assumption|constructor<;>omega) (by omega) (by omega))) Rl.cl rfl fun vv11 w10 a st hF=>?_
   obtain⟨r13,rfl⟩:=Rq.fo (st.f 0 rfl).1
   refine so st hF 0 8 0 aa rfl rfl rfl rfl fun w14 a st hF=>nr<|rs Tryz.results109 st hF 8 0 aa rfl rfl rfl ?_
   exact⟨_,rfl,Rq.castM (st.f 0 rfl).1 (Cx hc9),st.bel⟩
  ·refine oT hF 2 (bq (c:=false) (aH hc9)) rfl rfl fun a hF=>oA hF 0 rfl rfl fun a hF=>E.nil<|wp_cond_false hF.o<|wq ?_
   by_cases hc15:r=2
   ·refine oT hF 4 (bq (c:=true) (aJ hc15)) rfl rfl fun a hF=>oA hF 0 rfl rfl fun a hF=>E.nil<|wp_cond_true hF.o<|wp_seq ?_
    refine E.rga 8 aI hF [23,24,25,26,27,28,7,8] [_,_,_,_,_,_,kn w2 [.bool false,.slice none 0 0,.slice none 0 0],kn w2 [.bool false,.slice none 0 0,.slice none 0 0]] [6,7] ⟨fun _ _ ⟨g,e,_,o⟩=>⟨g,e,o.lt⟩,⟨fun _ _ ⟨g,e,_,o⟩=>⟨g,e,o.lt⟩,trivial⟩⟩ (by decide+kernel) rfl rfl rfl ⟨rm 10 rfl,rb st aO 8 1 rfl,ck st k55 rfl fun _ s=>aB (eX n xa xb xc xd _ (hT.below s.bel) (by first|assumption|constructor<;>omega) (by omega) (by omega)) (fX (by first|assumption|constructor<;>omega) (by omega) (by omega)),rm 10 rfl,rb st aO 8 1 rfl,ck st k57 rfl fun _ s=>aB (mg n xa xb xc xd _ (hT.below s.bel) (by first|assumption|constructor<;>omega) (by omega) (by omega)) (k7 (by first|assumption|constructor<;>omega) (by omega) (by omega)),ra aa rfl rfl,ra aa rfl rfl,trivial⟩ ?_
    intro a w16 hF bb hall hne
    have s0:=st
    replace st:=st.to bb
    obtain⟨vv17,hF,st⟩:=rS hall hF st 2 rfl rfl Rl.cl
    obtain⟨r19,rfl⟩:=Rq.fo (st.f 0 rfl).1
    obtain⟨vv20,hF,st⟩:=rS hall hF st 5 rfl rfl Rl.cl
    obtain⟨r22,rfl⟩:=Rq.fo (st.f 0 rfl).1
    obtain⟨_,e7,g7,rfl,ge7,o7⟩:=sS hall 6 7 rfl rfl
    replace st:=st.push o7.blk (Nat.le_trans s0.bel.size ge7) (s0.ne ge7)
    clear o7
    replace hF:=hF.add e7
    obtain⟨_,e8,g8,rfl,ge8,o8⟩:=sS hall 7 8 rfl rfl
    replace st:=st.push o8.blk (Nat.le_trans s0.bel.size ge8) (qb (fun(e:g7=g8)=>hne 6 7 7 8 rfl rfl (by decide) rfl rfl (by rw[e7,e8,e])) (s0.ne ge8))
    clear o8
    replace hF:=hF.add e8
    clear hall bb hne s0
    refine so st hF 1 1 3 aa rfl rfl rfl rfl fun w23 a st hF=>so st hF 0 0 2 aa rfl rfl rfl rfl fun w24 a st hF=>ns<|gz2 8 aI st hF aa 2 11 [29,30,31,32,33,34,35,36] [_,_,_,_,_,_,_,_] (by decide+kernel) rfl rfl rfl ⟨rb st aa 1 1 rfl,rb st aa 0 0 rfl,rb st aa 1 1 rfl,ck st k35 rfl fun _ s=>eg (s.f 0 rfl) (s.f 1 rfl),ck st k36 rfl fun _ s=>cJ,ck st co rfl fun _ s _ x32 _ x33=>cv x32 x33,ck st k76 rfl fun _ s _ x34=>je (s.f 1 rfl) x34,ck st AC rfl fun _ s _ x35=>aB (jQ _ ((bK (dF n xa xb xc xd))+(((bK (gP n xa xb xc xd))-(bK (dF n xa xb xc xd)))*(((3:Int):Rat)/((5:Int):Rat)))) 13 _ x35.1 x35.2 (by omega)) (y5 x35.2),trivial⟩ fun r28 w29 a st hF=>nr<|rs Tryz.results109 st hF 12 2 aa rfl rfl rfl ?_
    exact⟨_,rfl,Rq.castM (st.f 0 rfl).1 (CU hc15 (G8 _ _)),st.bel⟩
   ·refine oT hF 4 (bq (c:=false) (aH hc15)) rfl rfl fun a hF=>oA hF 0 rfl rfl fun a hF=>E.nil<|wp_cond_false hF.o<|wp_skip<|E.blk<|E.norm<|wq<|oM hF 10 rfl rfl fun a hF=>oV hF (ao hF.o ah ab (aU (by omega) (by omega))) rfl fun a hF=>S.ck st hF (rgc k40 (aC hF.o)) cH Rl.cl rfl fun vv31 w30 a st hF=>?_
    obtain⟨r33,rfl⟩:=Rq.fo (st.f 0 rfl).1
    refine so st hF 0 10 0 aa rfl rfl rfl rfl fun w34 a st hF=>nr<|rs Tryz.results109 st hF 10 0 aa rfl rfl rfl ?_
    exact⟨_,rfl,Rq.castM (st.f 0 rfl).1 (Cz hc3 hc9 hc15),st.bel⟩
theorem yI (v:Value) (z n:Int) (w:World) (h:Wz w v z) (e:z=n) (b0: -9223372036854775808<=n) (b1:n<=9223372036854775807):CV 174 #[v] w (.tuple #[iv n,.bool true]):=by
 subst e
 have h':=vV v z w h
 rw[jp b0 b1,iZ b0 b1] at h'
 exact h'
theorem fR (v1:Value) (qt:Rat) (k:Nat) (w:World) (hT:aY w) (h1:Rq w v1 qt) (hl:ag qt k) (hk:k<=100) (hk0: -1000000000000<=kaV qt) (hk1:kaV qt<=1000000000000):
 CV 111 #[v1] w (iv (kaV qt/12-1955880000)):=by
 refine gs1 (nt:=23) Tryz.func111 rfl rfl rfl fun a st hF=>wq ?_
 obtain⟨r2,rfl⟩:=Rq.fo h1
 refine bx st hF 0 rfl rfl fun g1 w1 a st hF=>?_
 refine oC hF rfl fun a hF=>ns<|gz1 6 aI st hF aa [6,7,8,9,10,3] [_,_,_,_,_,_] (by decide+kernel) rfl rfl rfl ⟨rb st aa 1 0 rfl,ck st k40 rfl fun _ s=>cH,ck st k35 rfl fun _ s _ x7=>eg ⟨(h1.below s.bel),hl⟩ x7,ck st pY rfl fun _ s=>iX,ck st kP rfl fun _ s _ x8 _ x9=>li x8 x9,ra aa rfl rfl,trivial⟩ fun r6 g3 w7 a st hF=>ns ?_
 refine E.rg 13 aI hF [12,13,14,15,16,17,18,19,11,20,21,4,5] [_,_,_,_,_,_,_,_,.ex (.tuple #[iv (kaV qt/12-1955880000),.bool true]),.ex (iv (kaV qt/12-1955880000)),.ex (.bool true),.ex (iv (kaV qt/12-1955880000)),.ex (.bool true)] (by decide+kernel) rfl rfl rfl ⟨rb st aa 0 0 rfl,rb st aa 3 1 rfl,ck st k85 rfl fun _ s=>xy (hT.below s.bel) ⟨(h1.below s.bel),hl⟩,ck st k36 rfl fun _ s=>cJ,ck st co rfl fun _ s _ x14 _ x15=>cv x14 x15,ck st k35 rfl fun _ s _ x16=>eg (s.f 0 rfl) x16,ck st IG rfl fun _ s _ x17=>da (xo _ ((((qt)-((((-1132959):Int):Rat)))/(pyr))-((cV (qt))*(((1:Int):Rat)/((360:Int):Rat)))) (((k+2+1)+2)+((3*k+100)+2)+1) _ x17.1 x17.2 (by omega)) (yH x17.2),ck st Gm rfl fun _ s _ x18=>bJ (yI _ (Rat.floor (((((qt)-((((-1132959):Int):Rat)))/(pyr))-((cV (qt))*(((1:Int):Rat)/((360:Int):Rat))))+((1:Int):Rat)/((2:Int):Rat))) (kaV qt/12-1955880000) _ (Wc.wz x18.1) (FE qt) (by omega) (by omega)),(by intro a' w' hF' hb hd;have e19:=tE hd 0 rfl;exact dv0 (aG e19) rfl rfl rfl),(by intro a' w' hF' hb hd;have e11:=tE hd 0 rfl;exact dv0 (aA (v:= iv (kaV qt/12-1955880000)) e11 rfl) rfl rfl rfl),(by intro a' w' hF' hb hd;have e11:=tE hd 0 rfl;exact dv0 (aA (v:= .bool true) e11 rfl) rfl rfl rfl),(by intro a' w' hF' hb hd;have e20:=tE hd 0 rfl;exact dv0 (aQ e20) rfl rfl rfl),(by intro a' w' hF' hb hd;have e21:=tE hd 0 rfl;exact dv0 (aQ e21) rfl rfl rfl),trivial⟩ ?_
 intro a w8 hF bb hall
 replace st:=st.to bb
 replace hF:=rE hall hF 11 rfl rfl
 clear hall bb
 refine nq ?_
 refine oM hF 0 rfl rfl fun a hF=>oE hF 0 rfl rfl fun a hF=>nr ?_
 have bel:=st.bel
 refine rt Tryz.results111 hF 0 rfl ?_
 exact⟨rfl,bel⟩
theorem wT (r n:Int) (xa xb xc xd:Int) (w:World) (hT:aY w) (hok:aZ xa xb xc xd) (hn0: -3900000<=n) (hn1:n<=3900000):
 CV 172 #[iv r,iv n,.agg #[iv xa,iv xb,iv xc,iv xd]] w (iv (kaV (bw r n xa xb xc xd)%12)):=by
 refine gs3 (nt:=12) Tryz.func172 rfl rfl rfl fun a st hF=>wq<|bx st hF 2 rfl rfl fun g5 w1 a st hF=>?_
 refine oC hF rfl fun a hF=>nq<|oM hF 2 rfl rfl fun a hF=>oM hF 4 rfl rfl fun a hF=>oL hF st 3 0 aO rfl rfl rfl rfl fun a hF=>S.ck st hF (rgc Bc (gR hF.q hF.p hF.o)) (aB (kI r n xa xb xc xd _ (hT.below st.bel) (by first|assumption|constructor<;>omega) (by omega) (by omega)) (ot (by first|assumption|constructor<;>omega) (by omega) (by omega))) Rl.cl rfl fun vv3 w2 a st hF=>?_
 obtain⟨r5,rfl⟩:=Rq.fo (st.f 0 rfl).1
 refine cX st hF (rgc k34 (aC hF.o)) (jt _ _ 3 _ (hT.below st.bel) (st.f 0 rfl).1 (st.f 0 rfl).2 (by omega)) rfl fun w6 a st hF=>?_
 refine oE hF 0 rfl rfl fun a hF=>nr ?_
 have bel:=st.bel
 refine rt Tryz.results172 hF 0 rfl ?_
 exact⟨rfl,bel⟩
theorem yy (r xa xb xc xd:Int) (w:World):
 CV 110 #[iv r,.agg #[iv xa,iv xb,iv xc,iv xd]] w (iv (ckE r xa xb xc xd)):=by
 refine gs2 (nt:=13) Tryz.func110 rfl rfl rfl fun a st hF=>wq<|bx st hF 1 rfl rfl fun g3 w1 a st hF=>?_
 refine oC hF rfl fun a hF=>ns<|wq<|oM hF 2 rfl rfl fun a hF=>?_
 by_cases hc2:r<0
 ·refine oT hF 0 (bC (c:=true) (aJ hc2)) rfl rfl fun a hF=>oM hF 0 rfl rfl fun a hF=>nu hF 0 rfl rfl rfl fun a hF=>nu hF 1 rfl rfl rfl fun a hF=>oV hF (aV hF.q ah) rfl fun a hF=>E.nil<|wp_cond_true hF.o<|wq ?_
  refine oS hF (aQ ah) rfl fun a hF=>nr ?_
  have bel:=st.bel
  refine rt Tryz.results110 hF 0 rfl ?_
  refine⟨bU ?_,bel⟩
  unfold ckE
  rw[if_neg (by omega)]
 ·refine oT hF 0 (bC (c:=false) (aH hc2)) rfl rfl fun a hF=>oM hF 0 rfl rfl fun a hF=>og hF (aG (hF.at 5 rfl)) 0 rfl rfl rfl fun a hF=>?_
  by_cases hc3:4<=r
  ·refine og hF (ao hF.o ah ab (aL (fP (c:=true) (aJ hc3)) (by simp))) 1 rfl rfl rfl fun a hF=>oV hF (aP hF.q hF.o) rfl fun a hF=>E.nil<|wp_cond_true hF.o<|wq ?_
   refine oS hF (aQ ah) rfl fun a hF=>nr ?_
   have bel:=st.bel
   refine rt Tryz.results110 hF 0 rfl ?_
   refine⟨bU ?_,bel⟩
   unfold ckE
   rw[if_neg (by omega)]
  ·refine og hF (ao hF.o ah ab (aL (fP (c:=false) (aH hc3)) (by simp))) 1 rfl rfl rfl fun a hF=>oV hF (aP hF.q hF.o) rfl fun a hF=>E.nil<|wp_cond_false hF.o<|wp_skip<|E.norm<|wq<|oL hF st 7 0 aO rfl rfl rfl rfl fun a hF=>cX st hF (rgc k37 (aC hF.o)) (o0 xa xb xc xd _) rfl fun w4 a st hF=>?_
   refine oE hF 0 rfl rfl fun a hF=>nr ?_
   have bel:=st.bel
   refine rt Tryz.results110 hF 0 rfl ?_
   refine⟨bU ?_,bel⟩
   unfold ckE
   rw[if_pos (by omega)]
theorem zG (v1:Value) (qt:Rat) (k:Nat) (w:World) (hT:aY w) (h1:Rq w v1 qt) (hl:ag qt k) (hk:k<=100) (hk0: -1000000000000<=kaV qt) (hk1:kaV qt<=1000000000000):
 CV 108 #[v1] w (iv (kaV qt-23470560000)):=by
 refine gs1 (nt:=9) Tryz.func108 rfl rfl rfl fun a st hF=>wq ?_
 obtain⟨r2,rfl⟩:=Rq.fo h1
 refine bx st hF 0 rfl rfl fun g1 w1 a st hF=>?_
 refine oC hF rfl fun a hF=>ns ?_
 refine E.rg 6 aI hF [3,4,5,6,7,8] [_,_,.ex (iv (12*(kaV (qt)/12-1955880000))),_,_,.ex (iv ((12*(kaV (qt)/12-1955880000))+(kaV (qt)%12)))] (by decide+kernel) rfl rfl rfl ⟨rb st aa 1 0 rfl,ck st tg rfl fun _ s=>bJ (fR _ (qt) k _ (hT.below s.bel) (h1.below s.bel) hl (by omega) (by omega) (by omega)),(by intro a' w' hF' hb hd;have e4:=tE hd 0 rfl;exact dv0 (ao ah e4 ab (fp (by omega) (by omega))) rfl rfl rfl),rb st aa 1 0 rfl,ck st k34 rfl fun _ s=>bJ (jt _ (qt) k _ (hT.below s.bel) (h1.below s.bel) hl (by omega)),(by intro a' w' hF' hb hd;have e5:=tE hd 0 rfl;have e7:=tE hd 1 rfl;exact dv0 (ao e5 e7 ab (aU (by omega) (by omega))) rfl rfl rfl),trivial⟩ ?_
 intro a w3 hF bb hall
 replace st:=st.to bb
 replace hF:=rE hall hF 5 rfl rfl
 clear hall bb
 refine oE hF 0 rfl rfl fun a hF=>nr ?_
 have bel:=st.bel
 refine rt Tryz.results108 hF 0 rfl ?_
 refine⟨bU ?_,bel⟩
 omega
theorem AV (n:Int) (w:World) (hn0: -3000000<=n) (hn1:n<=3000000):
 CV 54 #[iv n] w (.bool true):=by
 refine gs1 (nt:=9) Tryz.func54 rfl rfl rfl fun a st hF=>wq ?_
 refine oC hF rfl fun a hF=>nq<|oM hF 1 rfl rfl fun a hF=>?_
 by_cases hc1:(-3000000)<=n
 ·refine oT hF 0 (fP (c:=true) (aJ hc1)) rfl rfl fun a hF=>oM hF 0 rfl rfl fun a hF=>og hF (aG (hF.at 4 rfl)) 0 rfl rfl rfl fun a hF=>?_
  by_cases hc2:n<=3000000
  ·refine og hF (ao hF.o ah ab (aL (bP (c:=true) (aJ hc2)) (by simp))) 1 rfl rfl rfl fun a hF=>oV hF (aV hF.q hF.o) rfl fun a hF=>oE hF 0 rfl rfl fun a hF=>nr ?_
   have bel:=st.bel
   refine rt Tryz.results54 hF 0 rfl ?_
   exact⟨rfl,bel⟩
  ·(exfalso;omega)
 ·(exfalso;omega)
theorem zr (r bg sg xa xb xc xd h:Int) (g0 g1 g2 g3:Nat) (w:World) (hT:aY w) (hok:aZ xa xb xc xd) (hb0: -3890000<=bg) (hb1:bg<=3890000) (hh0:0<=h) (hh1:h<15) (h0:Blk w g0 [iv r]) (h1:Blk w g1 [iv bg]) (h2:Blk w g2 [iv xa,iv xb,iv xc,iv xd]) (h3:Blk w g3 [iv sg]):
 CV 107 #[iv h,.pointer (some ⟨g0,0,none⟩),.pointer (some ⟨g1,0,none⟩),.pointer (some ⟨g2,0,none⟩),.pointer (some ⟨g3,0,none⟩)] w (.bool (decide (sg<=kaV (bw r (bg+h) xa xb xc xd)-23470560000))):=by
 have hkc:=Cq r (n:=bg+h) hok (by omega) (by omega)
 have st:=St.start w
 refine E.enter (nt:=16) (L:=[(0,iv h),(1,.pointer (some ⟨g0,0,none⟩)),(2,.pointer (some ⟨g1,0,none⟩)),(3,.pointer (some ⟨g2,0,none⟩)),(4,.pointer (some ⟨g3,0,none⟩))]) Tryz.func107 rfl rfl rfl (aX (i:=0) rfl (aX (i:=1) rfl (aX (i:=2) rfl (aX (i:=3) rfl (aX (i:=4) rfl dU))))) ?_
 intro a hF
 refine wq ?_
 refine oC hF rfl fun a hF=>ns ?_
 refine E.rg 9 aI hF [7,8,9,10,11,12,13,14,15] [_,_,_,.ex (iv (bg+h)),_,_,_,_,.ex (.bool (decide (sg<=kaV (bw r (bg+h) xa xb xc xd)-23470560000)))] (by decide+kernel) rfl rfl rfl ⟨rd rfl rfl fun a' w' hF' hb=>(ar (hF'.at 2 rfl) (cr (v:= iv r) (h0.below (bv st.bel hb)) rfl)),rd rfl rfl fun a' w' hF' hb=>(ar (hF'.at 3 rfl) (bi (v:= iv bg) (h1.below (bv st.bel hb)) rfl)),rm 1 rfl,(by intro a' w' hF' hb hd;have e8:=tE hd 0 rfl;have e9:=tE hd 1 rfl;exact dv0 (ao e8 e9 ab (aU (by omega) (by omega))) rfl rfl rfl),rd rfl rfl fun a' w' hF' hb=>(ar (hF'.at 4 rfl) (Dx (vs:=[iv xa,iv xb,iv xc,iv xd]) (h2.below (bv st.bel hb)) rfl rfl)),ck st Bc rfl fun _ s=>aB (kI r (bg+h) xa xb xc xd _ (hT.below s.bel) (by first|assumption|constructor<;>omega) (by omega) (by omega)) (ot (by first|assumption|constructor<;>omega) (by omega) (by omega)),ck st I1 rfl fun _ s _ x12=>bJ (zG _ (bw r (bg+h) xa xb xc xd) 3 _ (hT.below s.bel) x12.1 x12.2 (by omega) (by omega) (by omega)),rd rfl rfl fun a' w' hF' hb=>(ar (hF'.at 5 rfl) (bi (v:= iv sg) (h3.below (bv st.bel hb)) rfl)),(by intro a' w' hF' hb hd;have e13:=tE hd 0 rfl;have e14:=tE hd 1 rfl;exact dv0 (ao e13 e14 ab (aL (fP (c:=decide (sg<=kaV (bw r (bg+h) xa xb xc xd)-23470560000)) rfl) (by simp))) rfl rfl rfl),trivial⟩ ?_
 intro a w1 hF bb hall
 replace st:=st.to bb
 replace hF:=rE hall hF 8 rfl rfl
 clear hall bb
 refine oE hF 0 rfl rfl fun a hF=>nr ?_
 have bel:=st.bel
 refine rt Tryz.results107 hF 0 rfl ?_
 exact⟨rfl,bel⟩
theorem za (r bg sg xa xb xc xd:Int) (g0 g1 g2 g3:Nat) (w:World) (hT:aY w) (hok:aZ xa xb xc xd) (hb0: -3890000<=bg) (hb1:bg<=3890000) (h0:Blk w g0 [iv r]) (h1:Blk w g1 [iv bg]) (h2:Blk w g2 [iv xa,iv xb,iv xc,iv xd]) (h3:Blk w g3 [iv sg]):rH w 107 #[.pointer (some ⟨g0,0,none⟩),.pointer (some ⟨g1,0,none⟩),.pointer (some ⟨g2,0,none⟩),.pointer (some ⟨g3,0,none⟩)] 15 (fun h=>decide (sg<=kaV (bw r (bg+h) xa xb xc xd)-23470560000)):=
 ⟨⟨_,Tryz.func107,CY.1,CY.2⟩,fun h w' hb a b=>zr r bg sg xa xb xc xd h g0 g1 g2 g3 w' (hT.below hb) hok hb0 hb1 a b (h0.below hb) (h1.below hb) (h2.below hb) (h3.below hb)⟩
theorem qB (v1:Value) (qt:Rat) (k:Nat) (n:Int) (w:World) (h1:Rq w v1 qt) (hl:ag qt k) (hk:k<=10000) (e:qt.floor=n) (h0: -9223372036854775808<=n) (h3:n<=9223372036854775807):CV 105 #[v1] w (.tuple #[iv n,.bool true]):=by
 subst e
 have h:=gt v1 _ k w h1 hl hk
 rwa[jp h0 h3,iZ h0 h3] at h
theorem ii (r y m:Int) (xa xb xc xd:Int) (w:World) (hT:aY w) (hok:aZ xa xb xc xd) (hy0: -20000<=y) (hy1:y<=20000) (hm0:1<=m) (hm1:m<=12) (hf0: -3800000<=foD (dv r xa xb xc xd) y m) (hf1:foD (dv r xa xb xc xd) y m<=3800000):
 CV 47 #[iv r,iv y,iv m,.agg #[iv xa,iv xb,iv xc,iv xd]] w (iv (foD (dv r xa xb xc xd) y m)):=by
 have hfo:=E4 (iQ r hok) (gO r hok) y m
 obtain⟨fe,hfe⟩:∃z:Int,(cw (12*(y+3179)+(m-1))).floor =z:=⟨_,rfl⟩
 rw[hfe] at hfo
 have st:=St.start w
 refine E.enter (nt:=39) (L:=[(0,iv r),(1,iv y),(2,iv m),(3,.agg #[iv xa,iv xb,iv xc,iv xd])]) Tryz.func47 rfl rfl rfl (aX (i:=0) rfl (aX (i:=1) rfl (aX (i:=2) rfl (aX (i:=3) rfl dU)))) ?_
 intro a hF
 refine wq ?_
 refine S.boxI st hF hF.o rfl rfl fun g4 w1 a st hF=>?_
 refine bx st hF 4 rfl rfl fun g7 w2 a st hF=>?_
 refine oC hF rfl fun a hF=>nq<|oM hF 4 rfl rfl fun a hF=>oV hF (ao hF.o ah ab (aU (by omega) (by omega))) rfl fun a hF=>oV hF (ao ah hF.o ab (fp (by omega) (by omega))) rfl fun a hF=>oM hF 8 rfl rfl fun a hF=>oV hF (ao hF.o ah ab (bM (by omega) (by omega))) rfl fun a hF=>oV hF (ao hF.q hF.o ab (aU (by omega) (by omega))) rfl fun a hF=>?_
 refine S.newI st hF 0 rfl cD y8 rfl rfl fun g9 w3 a st hF=>?_
 refine ns<|gz1 5 aI st hF aa [21,22,23,24,10] [_,_,_,_,_] (by decide+kernel) rfl rfl rfl ⟨ck st pY rfl fun _ s=>iX,rd rfl rfl fun a' w' hF' hb=>(ar (hF'.at 0 rfl) (bi (v:= iv ((12*(y+3179))+(m-1))) ((st.bk 0 rfl).below hb) rfl)),ck st k36 rfl fun _ s=>cJ,ck st co rfl fun _ s _ x21 _ x23=>cv x21 x23,ra aa rfl rfl,trivial⟩ fun r7 g10 w8 a st hF=>ns ?_
 refine E.rg 9 aI hF [26,27,28,29,25,30,31,11,12] [_,_,_,_,.ex (.tuple #[iv fe,.bool true]),.ex (iv fe),.ex (.bool true),.ex (iv fe),.ex (.bool true)] (by decide+kernel) rfl rfl rfl ⟨rb st aa 0 0 rfl,ck st k40 rfl fun _ s=>cH,ck st k76 rfl fun _ s _ x27=>je (s.f 0 rfl) x27,ck st nY rfl fun _ s _ x28=>bJ (qB _ (((pyr)*((((12*(y+3179))+(m-1):Int):Rat)/((12:Int):Rat)))+((((-1132959):Int):Rat))) 7 fe _ x28.1 x28.2 (by omega) hfe (by omega) (by omega)),(by intro a' w' hF' hb hd;have e29:=tE hd 0 rfl;exact dv0 (aG e29) rfl rfl rfl),(by intro a' w' hF' hb hd;have e25:=tE hd 0 rfl;exact dv0 (aA (v:= iv fe) e25 rfl) rfl rfl rfl),(by intro a' w' hF' hb hd;have e25:=tE hd 0 rfl;exact dv0 (aA (v:= .bool true) e25 rfl) rfl rfl rfl),(by intro a' w' hF' hb hd;have e30:=tE hd 0 rfl;exact dv0 (aQ e30) rfl rfl rfl),(by intro a' w' hF' hb hd;have e31:=tE hd 0 rfl;exact dv0 (aQ e31) rfl rfl rfl),trivial⟩ ?_
 intro a w9 hF bb hall
 replace st:=st.to bb
 replace hF:=rE hall hF 7 rfl rfl
 clear hall bb
 refine nq<|oM hF 0 rfl rfl fun a hF=>oV hF (ao hF.o ah ab (bM (by omega) (by omega))) rfl fun a hF=>?_
 refine S.newI st hF 0 rfl cD y8 rfl rfl fun g13 w10 a st hF=>?_
 refine nq<|oV hF (wO iI (C1 (hF.at 15 rfl) hF.o (hF.at 14 rfl) (hF.at 6 rfl))) rfl fun a hF=>cX st hF (rgc I7 (aK ah hF.o)) (wY 15 (foD (dv r xa xb xc xd) y m-(fe-7)) _ _ (fun h=>decide ((12*(y+3179))+(m-1)<=kaV (bw r (fe-7+h) xa xb xc xd)-23470560000)) _ (by omega) (by omega) (by omega) (fun h _ _=>GR (by first|assumption|constructor<;>omega) h) (za r (fe-7) ((12*(y+3179))+(m-1)) xa xb xc xd _ _ _ _ _ (hT.below st.bel) (by first|assumption|constructor<;>omega) (by omega) (by omega) (st.bk 4 rfl) (st.bk 0 rfl) (st.bk 3 rfl) (st.bk 2 rfl))) rfl fun w11 a st hF=>?_
 refine oA hF 0 rfl rfl fun a hF=>nq ?_
 refine oV hF (ar (hF.at 3 rfl) (bi (v:= iv (fe-7)) (st.bk 0 rfl) rfl)) rfl fun a hF=>oM hF 1 rfl rfl fun a hF=>oV hF (ao hF.p hF.o ab (aU (by omega) (by omega))) rfl fun a hF=>oE hF 0 rfl rfl fun a hF=>nr ?_
 have bel:=st.bel
 refine rt Tryz.results47 hF 0 rfl ?_
 refine⟨bU ?_,bel⟩
 omega
theorem tf (r n:Int) (xa xb xc xd:Int) (w:World) (hT:aY w) (hok:aZ xa xb xc xd) (hr0:0<=r) (hr1:r<=3) (hn0: -3000000<=n) (hn1:n<=3000000):
 CV 48 #[iv r,iv n,.agg #[iv xa,iv xb,iv xc,iv xd]] w (.tuple #[.agg #[iv (kaV (bw r n xa xb xc xd)/12-1955880000-3179),iv (kaV (bw r n xa xb xc xd)%12+1),iv (n-fsD (dv r xa xb xc xd) n+1)],iv 0]):=by
 have hck:ckE r xa xb xc xd=0:=Ft hr0 hr1 hok
 have hkc:=Cq r (n:=n) hok (by omega) (by omega)
 have hfs:=iW (iQ r hok) n
 have hfo:foD (dv r xa xb xc xd) (kaV (bw r n xa xb xc xd)/12-1955880000-3179) (kaV (bw r n xa xb xc xd)%12+1)=fsD (dv r xa xb xc xd) n:=FZ (iQ r hok) (gO r hok) n
 refine gs3 (nt:=46) Tryz.func48 rfl rfl rfl fun a st hF=>wq<|bx st hF 2 rfl rfl fun g5 w1 a st hF=>S.alloc st hF jl rfl rfl fun g6 w2 a st hF=>?_
 refine oC hF rfl fun a hF=>ns<|wq<|oM hF 3 rfl rfl fun a hF=>oL hF st 3 1 aO rfl rfl rfl rfl fun a hF=>cX st hF (rgc IP (aK hF.p hF.o)) (yy r xa xb xc xd _) rfl fun w3 a st hF=>?_
 refine oA hF 0 rfl rfl fun a hF=>nq<|oM hF 0 rfl rfl fun a hF=>oT hF 0 (dS (c:=false) (aH (by omega))) rfl rfl fun a hF=>E.nil<|wp_cond_false hF.o<|wp_skip<|E.norm<|wp_seq<|wq<|oM hF 10 rfl rfl fun a hF=>cX st hF (rgc k54 (aC hF.o)) (AV n _ (by omega) (by omega)) rfl fun w4 a st hF=>?_
 refine oV hF (fZ hF.o (eo _ false rfl)) rfl fun a hF=>E.nil<|wp_cond_false hF.o<|wp_skip<|E.norm<|wq<|oM hF 12 rfl rfl fun a hF=>oM hF 14 rfl rfl fun a hF=>oL hF st 13 1 aO rfl rfl rfl rfl fun a hF=>S.ck st hF (rgc Bc (gR hF.q hF.p hF.o)) (aB (kI r n xa xb xc xd _ (hT.below st.bel) (by first|assumption|constructor<;>omega) (by omega) (by omega)) (ot (by first|assumption|constructor<;>omega) (by omega) (by omega))) Rl.cl rfl fun vv6 w5 a st hF=>?_
 obtain⟨r8,rfl⟩:=Rq.fo (st.f 0 rfl).1
 refine S.new st hF 0 rfl aa rfl rfl rfl rfl rfl fun g9 w9 a st hF=>ns ?_
 refine E.rg 8 aI hF [28,29,30,31,32,33,10,11] [_,_,.ex (iv ((kaV (bw r n xa xb xc xd)/12-1955880000)-3179)),_,_,.ex (iv ((kaV (bw r n xa xb xc xd)%12)+1)),.ex (iv ((kaV (bw r n xa xb xc xd)/12-1955880000)-3179)),.ex (iv ((kaV (bw r n xa xb xc xd)%12)+1))] (by decide+kernel) rfl rfl rfl ⟨rb st aa 0 0 rfl,ck st tg rfl fun _ s=>bJ (fR _ (bw r n xa xb xc xd) 3 _ (hT.below s.bel) (s.f 0 rfl).1 (s.f 0 rfl).2 (by omega) (by omega) (by omega)),(by intro a' w' hF' hb hd;have e29:=tE hd 0 rfl;exact dv0 (ao e29 ah ab (bM (by omega) (by omega))) rfl rfl rfl),rb st aa 0 0 rfl,ck st k34 rfl fun _ s=>bJ (jt _ (bw r n xa xb xc xd) 3 _ (hT.below s.bel) (s.f 0 rfl).1 (s.f 0 rfl).2 (by omega)),(by intro a' w' hF' hb hd;have e32:=tE hd 0 rfl;exact dv0 (ao e32 ah ab (aU (by omega) (by omega))) rfl rfl rfl),(by intro a' w' hF' hb hd;have e30:=tE hd 0 rfl;exact dv0 (aQ e30) rfl rfl rfl),(by intro a' w' hF' hb hd;have e33:=tE hd 0 rfl;exact dv0 (aQ e33) rfl rfl rfl),trivial⟩ ?_
 intro a w10 hF bb hall
 replace st:=st.to bb
 replace hF:=rE hall hF 6 rfl rfl
 replace hF:=rE hall hF 7 rfl rfl
 clear hall bb
 refine nq<|oM hF 19 rfl rfl fun a hF=>oM hF 2 rfl rfl fun a hF=>oM hF 2 rfl rfl fun a hF=>oL hF st 21 2 aO rfl rfl rfl rfl fun a hF=>cX st hF (rgc k47 (pW (hF.at 3 rfl) hF.q hF.p hF.o)) (ii r ((kaV (bw r n xa xb xc xd)/12-1955880000)-3179) ((kaV (bw r n xa xb xc xd)%12)+1) xa xb xc xd _ (hT.below st.bel) (by first|assumption|constructor<;>omega) (by omega) (by omega) (by omega) (by omega) (by omega) (by omega)) rfl fun w11 a st hF=>?_
 refine oA hF 0 rfl rfl fun a hF=>nq<|oM hF 7 rfl rfl fun a hF=>oM hF 7 rfl rfl fun a hF=>oM hF 28 rfl rfl fun a hF=>oM hF 3 rfl rfl fun a hF=>oV hF (ao hF.p hF.o ab (bM (by omega) (by omega))) rfl fun a hF=>oV hF (ao hF.o ah ab (aU (by omega) (by omega))) rfl fun a hF=>oV hF (bB (lv (hF.at 5 rfl) (hF.at 4 rfl) hF.o) (kT _ _ _ _)) rfl fun a hF=>S.stoI st hF 1 rfl (hF.at 30 rfl) hF.o jl rfl rfl rfl fun w12 a st hF=>?_
 refine oS hF (aQ ah) rfl fun a hF=>nr ?_
 have bel:=st.bel
 refine bodyPost_ret (uh Tryz.results48 (hF.at 30 rfl) (bh jl (st.bk 1 rfl) rfl) hF.o) hF.dfr ?_
 refine⟨?_,bel⟩
 rw[hfo]
end Go.Proofs.YtgdpkknapcgcbaaGreatDoor
