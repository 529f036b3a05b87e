import Derived.Test.YtgdpkknapcgcbaaGreatDoorKD38
namespace Go.Proofs.YtgdpkknapcgcbaaGreatDoor
open Go.RowKit
set_option maxRecDepth 100000
set_option linter.unusedVariables false
set_option maxHeartbeats 8000000
theorem D9 (y m:Int):Rat.floor (((-1132959:Int):Rat)+pyr*(((12*(y+3044)+m-2:Int):Rat)/((12:Int):Rat)))=fiE y m:=by
 unfold fiE cw
 rw[show 12*(y+3044)+m-2=12*(y+3044)+(m-2) by omega,Rat.add_comm]
theorem ib (y m:Int) (w:World) (hy0: -9000<=y) (hy1:y<=9000) (hm0:1<=m) (hm1:m<=12):
 CV 169 #[iv y,iv m] w (iv (fiE y m)):=by
 have hfe:=kD hy0 hy1 hm0 hm1
 refine gs2 (nt:=27) Tryz.func169 rfl rfl rfl fun a st hF=>wq ?_
 refine oC hF rfl fun a hF=>nq<|oM hF 1 rfl rfl fun a hF=>oV hF (ao hF.o ah ab (aU (by omega) (by omega))) rfl fun a hF=>oV hF (ao ah hF.o ab (fp (by omega) (by omega))) rfl fun a hF=>oM hF 5 rfl rfl fun a hF=>oV hF (ao hF.p hF.o ab (aU (by omega) (by omega))) rfl fun a hF=>oV hF (ao hF.o ah ab (bM (by omega) (by omega))) rfl fun a hF=>oA hF 0 rfl rfl fun a hF=>nq<|S.ck st hF (rgc pY iI) (iX) Rl.cl rfl fun vv2 w1 a st hF=>?_
 obtain⟨r4,rfl⟩:=Rq.fo (st.f 0 rfl).1
 refine oM hF 1 rfl rfl fun a hF=>S.ck st hF (rgc k36 (aK hF.o ah)) cJ Rl.cl rfl fun vv6 w5 a st hF=>?_
 obtain⟨r8,rfl⟩:=Rq.fo (st.f 0 rfl).1
 refine S.ck st hF (rgc co (aK hF.q hF.o)) (cv (st.f 1 rfl) (st.f 0 rfl)) Rl.cl rfl fun vv10 w9 a st hF=>?_
 obtain⟨r12,rfl⟩:=Rq.fo (st.f 0 rfl).1
 refine S.new st hF 0 rfl aa rfl rfl rfl rfl rfl fun g6 w13 a st hF=>ns ?_
 refine E.rg 9 aI hF [20,21,22,23,19,24,25,7,8] [_,_,_,_,.ex (.tuple #[iv (fiE y m),.bool true]),.ex (iv (fiE y m)),.ex (.bool true),.ex (iv (fiE y m)),.ex (.bool true)] (by decide+kernel) rfl rfl rfl ⟨ck st k40 rfl fun _ s=>cH,rb st aa 0 0 rfl,ck st k76 rfl fun _ s _ x20=>je x20 (s.f 0 rfl),ck st nY rfl fun _ s _ x22=>bJ (qB _ (((((-1132959):Int):Rat))+((pyr)*(((((12*(y+3044))+m)-2:Int):Rat)/((12:Int):Rat)))) 7 (fiE y m) _ x22.1 x22.2 (by omega) (D9 y m) (by omega) (by omega)),(by intro a' w' hF' hb hd;have e23:=tE hd 0 rfl;exact dv0 (aG e23) rfl rfl rfl),(by intro a' w' hF' hb hd;have e19:=tE hd 0 rfl;exact dv0 (aA (v:= iv (fiE y m)) e19 rfl) rfl rfl rfl),(by intro a' w' hF' hb hd;have e19:=tE hd 0 rfl;exact dv0 (aA (v:= .bool true) e19 rfl) rfl rfl rfl),(by intro a' w' hF' hb hd;have e24:=tE hd 0 rfl;exact dv0 (aQ e24) rfl rfl rfl),(by intro a' w' hF' hb hd;have e25:=tE hd 0 rfl;exact dv0 (aQ e25) rfl rfl rfl),trivial⟩ ?_
 intro a w14 hF bb hall
 replace st:=st.to bb
 replace hF:=rE hall hF 7 rfl rfl
 clear hall bb
 refine nq ?_
 refine oM hF 0 rfl rfl fun a hF=>oE hF 0 rfl rfl fun a hF=>nr ?_
 have bel:=st.bel
 refine rt Tryz.results169 hF 0 rfl ?_
 exact⟨rfl,bel⟩
theorem xJ (z0 z1 z2 z3:Int) (y:Int) (w:World) (hy0: -9000<=y) (hy1:y<=9000) (h2:0<=z2) (h3:z2<=11) (hi0:fiE y ((z2+1)%12+1)-5<=z0) (hi1:z0<=fiE y ((z2+1)%12+1)+40):
 CV 171 #[.agg #[iv z0,iv z1,iv z2,iv z3],iv y] w (.bool true):=by
 have hfe:=kD (m:=(z2+1)%12+1) hy0 hy1 (by omega) (by omega)
 refine gs2 (nt:=22) Tryz.func171 rfl rfl rfl fun a st hF=>wq<|bx st hF 0 rfl rfl fun g2 w1 a st hF=>?_
 refine oC hF rfl fun a hF=>nq<|oM hF 3 rfl rfl fun a hF=>oL hF st 2 0 bN rfl rfl rfl rfl fun a hF=>cX st hF (rgc k99 (aC hF.o)) (gF z0 z1 z2 z3 _ (by omega) (by omega)) rfl fun w2 a st hF=>cX st hF (rgc wU (aK hF.q hF.o)) (ib y ((z2+1)%12+1) _ (by omega) (by omega) (by omega) (by omega)) rfl fun w3 a st hF=>?_
 refine oA hF 0 rfl rfl fun a hF=>nq<|oV hF (au (hF.at 6 rfl) (gX (p:=0) rfl)) rfl fun a hF=>oV hF (ar hF.o (bi (v:= iv z0) (st.bk 0 rfl) rfl)) rfl fun a hF=>oM hF 2 rfl rfl fun a hF=>oV hF (ao hF.o ah ab (bM (by omega) (by omega))) rfl fun a hF=>?_
 by_cases hc4:(fiE y ((z2+1)%12+1))-5<=z0
 ·first
  |(exfalso;omega)
  |(refine oU hF 2 0 (fP (c:=true) (aJ hc4)) rfl rfl rfl fun a hF=>?_
    refine oM hF 0 rfl rfl fun a hF=>og hF (au (hF.at 12 rfl) (gX (p:=0) rfl)) 0 rfl rfl rfl fun a hF=>og hF (ar hF.o (bi (v:= iv z0) (st.bk 0 rfl) rfl)) 1 rfl rfl rfl fun a hF=>og hF (aG (hF.at 8 rfl)) 2 rfl rfl rfl fun a hF=>og hF (ao hF.o ah ab (aU (by omega) (by omega))) 3 rfl rfl rfl fun a hF=>?_
    by_cases hc5:z0<=(fiE y ((z2+1)%12+1))+40
    ·first
     |(exfalso;omega)
     |(refine og hF (ao hF.q hF.o ab (aL (bP (c:=true) (aJ hc5)) (by simp))) 4 rfl rfl rfl fun a hF=>?_
       refine oV hF (aV (hF.at 5 rfl) hF.o) rfl fun a hF=>oE hF 0 rfl rfl fun a hF=>nr ?_
       have bel:=st.bel
       refine rt Tryz.results171 hF 0 rfl ?_
       exact⟨rfl,bel⟩)
    ·first
     |(exfalso;omega)
     |(refine og hF (ao hF.q hF.o ab (aL (bP (c:=false) (aH hc5)) (by simp))) 4 rfl rfl rfl fun a hF=>?_
       refine oV hF (aV (hF.at 5 rfl) hF.o) rfl fun a hF=>oE hF 0 rfl rfl fun a hF=>nr ?_
       have bel:=st.bel
       refine rt Tryz.results171 hF 0 rfl ?_
       exfalso;omega))
 ·first
  |(exfalso;omega)
  |(refine oU hF 2 0 (fP (c:=false) (aH hc4)) rfl rfl rfl fun a hF=>?_
    refine oM hF 0 rfl rfl fun a hF=>nu hF 0 rfl rfl rfl fun a hF=>nu hF 1 rfl rfl rfl fun a hF=>nu hF 2 rfl rfl rfl fun a hF=>nu hF 3 rfl rfl rfl fun a hF=>nu hF 4 rfl rfl rfl fun a hF=>oV hF (aP (hF.at 5 rfl) ah) rfl fun a hF=>?_
    refine oE hF 0 rfl rfl fun a hF=>nr ?_
    have bel:=st.bel
    refine rt Tryz.results171 hF 0 rfl ?_
    exfalso;omega)
theorem yP (z0 z1 z2 z3:Int) (y:Int) (w:World) (hy0: -9000<=y) (hy1:y<=9000) (h2:0<=z2) (h3:z2<=11) (hi:¬(fiE y ((z2+1)%12+1)-5<=z0/\z0<=fiE y ((z2+1)%12+1)+40)):
 CV 171 #[.agg #[iv z0,iv z1,iv z2,iv z3],iv y] w (.bool false):=by
 have hfe:=kD (m:=(z2+1)%12+1) hy0 hy1 (by omega) (by omega)
 refine gs2 (nt:=22) Tryz.func171 rfl rfl rfl fun a st hF=>wq<|bx st hF 0 rfl rfl fun g2 w1 a st hF=>?_
 refine oC hF rfl fun a hF=>nq<|oM hF 3 rfl rfl fun a hF=>oL hF st 2 0 bN rfl rfl rfl rfl fun a hF=>cX st hF (rgc k99 (aC hF.o)) (gF z0 z1 z2 z3 _ (by omega) (by omega)) rfl fun w2 a st hF=>cX st hF (rgc wU (aK hF.q hF.o)) (ib y ((z2+1)%12+1) _ (by omega) (by omega) (by omega) (by omega)) rfl fun w3 a st hF=>?_
 refine oA hF 0 rfl rfl fun a hF=>nq<|oV hF (au (hF.at 6 rfl) (gX (p:=0) rfl)) rfl fun a hF=>oV hF (ar hF.o (bi (v:= iv z0) (st.bk 0 rfl) rfl)) rfl fun a hF=>oM hF 2 rfl rfl fun a hF=>oV hF (ao hF.o ah ab (bM (by omega) (by omega))) rfl fun a hF=>?_
 by_cases hc4:(fiE y ((z2+1)%12+1))-5<=z0
 ·first
  |(exfalso;omega)
  |(refine oU hF 2 0 (fP (c:=true) (aJ hc4)) rfl rfl rfl fun a hF=>?_
    refine oM hF 0 rfl rfl fun a hF=>og hF (au (hF.at 12 rfl) (gX (p:=0) rfl)) 0 rfl rfl rfl fun a hF=>og hF (ar hF.o (bi (v:= iv z0) (st.bk 0 rfl) rfl)) 1 rfl rfl rfl fun a hF=>og hF (aG (hF.at 8 rfl)) 2 rfl rfl rfl fun a hF=>og hF (ao hF.o ah ab (aU (by omega) (by omega))) 3 rfl rfl rfl fun a hF=>?_
    by_cases hc5:z0<=(fiE y ((z2+1)%12+1))+40
    ·first
     |(exfalso;omega)
     |(refine og hF (ao hF.q hF.o ab (aL (bP (c:=true) (aJ hc5)) (by simp))) 4 rfl rfl rfl fun a hF=>?_
       refine oV hF (aV (hF.at 5 rfl) hF.o) rfl fun a hF=>oE hF 0 rfl rfl fun a hF=>nr ?_
       have bel:=st.bel
       refine rt Tryz.results171 hF 0 rfl ?_
       exfalso;omega)
    ·first
     |(exfalso;omega)
     |(refine og hF (ao hF.q hF.o ab (aL (bP (c:=false) (aH hc5)) (by simp))) 4 rfl rfl rfl fun a hF=>?_
       refine oV hF (aV (hF.at 5 rfl) hF.o) rfl fun a hF=>oE hF 0 rfl rfl fun a hF=>nr ?_
       have bel:=st.bel
       refine rt Tryz.results171 hF 0 rfl ?_
       exact⟨rfl,bel⟩))
 ·first
  |(exfalso;omega)
  |(refine oU hF 2 0 (fP (c:=false) (aH hc4)) rfl rfl rfl fun a hF=>?_
    refine oM hF 0 rfl rfl fun a hF=>nu hF 0 rfl rfl rfl fun a hF=>nu hF 1 rfl rfl rfl fun a hF=>nu hF 2 rfl rfl rfl fun a hF=>nu hF 3 rfl rfl rfl fun a hF=>nu hF 4 rfl rfl rfl fun a hF=>oV hF (aP (hF.at 5 rfl) ah) rfl fun a hF=>?_
    refine oE hF 0 rfl rfl fun a hF=>nr ?_
    have bel:=st.bel
    refine rt Tryz.results171 hF 0 rfl ?_
    exact⟨rfl,bel⟩)
theorem qD (y m:Int) (l:Bool) (x:Int) (u:Bool) (xa xb xc xd:Int) (w:World):
 CV 112 #[.agg #[iv y,iv m,.bool l,iv x,.bool u],.agg #[iv xa,iv xb,iv xc,iv xd]] w (iv (eu y m x xa xb xc xd)):=by
 refine gs2 (nt:=39) Tryz.func112 rfl rfl rfl fun a st hF=>wq<|bx st hF 0 rfl rfl fun g2 w1 a st hF=>bx st hF 2 rfl rfl fun g3 w2 a st hF=>?_
 refine oC hF rfl fun a hF=>ns<|wq<|oL hF st 1 0 aO rfl rfl rfl rfl fun a hF=>cX st hF (rgc k37 (aC hF.o)) (o0 xa xb xc xd _) rfl fun w3 a st hF=>?_
 refine oA hF 0 rfl rfl fun a hF=>nq<|oM hF 0 rfl rfl fun a hF=>?_
 by_cases hc4:plE xa xb xc xd≠0
 ·first
  |(exfalso;omega)
  |(refine oT hF 0 (dS (c:=true) (aJ hc4)) rfl rfl fun a hF=>?_
    refine E.nil<|wp_cond_true hF.o<|wq ?_
    refine oM hF 2 rfl rfl fun a hF=>oE hF 0 rfl rfl fun a hF=>nr ?_
    have bel:=st.bel
    refine rt Tryz.results112 hF 0 rfl ?_
    refine⟨bU ?_,bel⟩
    unfold eu
    rw[if_pos (by omega)])
 ·first
  |(exfalso;omega)
  |(refine oT hF 0 (dS (c:=false) (aH hc4)) rfl rfl fun a hF=>?_
    refine E.nil<|wp_cond_false hF.o<|wp_skip<|E.norm<|wp_seq<|wp_block<|wq<|oV hF (au (hF.at 7 rfl) (sK (p:=1) rfl)) rfl fun a hF=>oV hF (ar hF.o (cr (v:= iv m) (st.bk 1 rfl) rfl)) rfl fun a hF=>?_
    by_cases hc5:m<1
    ·first
     |(exfalso;omega)
     |(refine oT hF 0 (bC (c:=true) (aJ hc5)) rfl rfl fun a hF=>?_
       refine oM hF 0 rfl rfl fun a hF=>nu hF 0 rfl rfl rfl fun a hF=>nu hF 1 rfl rfl rfl fun a hF=>nu hF 2 rfl rfl rfl fun a hF=>oV hF (aV (hF.at 3 rfl) ah) rfl fun a hF=>oM hF 0 rfl rfl fun a hF=>nu hF 0 rfl rfl rfl fun a hF=>nu hF 1 rfl rfl rfl fun a hF=>nu hF 2 rfl rfl rfl fun a hF=>oV hF (aV (hF.at 3 rfl) ah) rfl fun a hF=>oM hF 0 rfl rfl fun a hF=>nu hF 0 rfl rfl rfl fun a hF=>nu hF 1 rfl rfl rfl fun a hF=>nu hF 2 rfl rfl rfl fun a hF=>?_
       refine oV hF (aV (hF.at 3 rfl) ah) rfl fun a hF=>oA hF 0 rfl rfl fun a hF=>E.nil<|wp_cond_true hF.o<|wq ?_
       refine oS hF (aQ ah) rfl fun a hF=>nr ?_
       have bel:=st.bel
       refine rt Tryz.results112 hF 0 rfl ?_
       refine⟨bU ?_,bel⟩
       unfold eu
       rw[if_neg (by omega),if_pos (by omega)])
    ·first
     |(exfalso;omega)
     |(refine oT hF 0 (bC (c:=false) (aH hc5)) rfl rfl fun a hF=>?_
       refine oM hF 0 rfl rfl fun a hF=>og hF (au (hF.at 11 rfl) (sK (p:=1) rfl)) 0 rfl rfl rfl fun a hF=>og hF (ar hF.o (cr (v:= iv m) (st.bk 1 rfl) rfl)) 1 rfl rfl rfl fun a hF=>?_
       by_cases hc6:12<m
       ·first
        |(exfalso;omega)
        |(refine og hF (ao hF.o ah ab (aL (cS (c:=true) (aJ hc6)) (by simp))) 2 rfl rfl rfl fun a hF=>?_
          refine oV hF (aP (hF.at 3 rfl) hF.o) rfl fun a hF=>oM hF 0 rfl rfl fun a hF=>nu hF 0 rfl rfl rfl fun a hF=>nu hF 1 rfl rfl rfl fun a hF=>nu hF 2 rfl rfl rfl fun a hF=>oV hF (aV (hF.at 3 rfl) ah) rfl fun a hF=>oM hF 0 rfl rfl fun a hF=>nu hF 0 rfl rfl rfl fun a hF=>nu hF 1 rfl rfl rfl fun a hF=>nu hF 2 rfl rfl rfl fun a hF=>oV hF (aV (hF.at 3 rfl) ah) rfl fun a hF=>oA hF 0 rfl rfl fun a hF=>?_
          refine E.nil<|wp_cond_true hF.o<|wq ?_
          refine oS hF (aQ ah) rfl fun a hF=>nr ?_
          have bel:=st.bel
          refine rt Tryz.results112 hF 0 rfl ?_
          refine⟨bU ?_,bel⟩
          unfold eu
          rw[if_neg (by omega),if_pos (by omega)])
       ·first
        |(exfalso;omega)
        |(refine og hF (ao hF.o ah ab (aL (cS (c:=false) (aH hc6)) (by simp))) 2 rfl rfl rfl fun a hF=>?_
          refine oV hF (aP (hF.at 3 rfl) hF.o) rfl fun a hF=>oM hF 0 rfl rfl fun a hF=>og hF (au (hF.at 16 rfl) (s4 (p:=3) rfl)) 0 rfl rfl rfl fun a hF=>og hF (ar hF.o (cr (v:= iv x) (st.bk 1 rfl) rfl)) 1 rfl rfl rfl fun a hF=>?_
          by_cases hc7:x<1
          ·first
           |(exfalso;omega)
           |(refine og hF (ao hF.o ah ab (aL (bC (c:=true) (aJ hc7)) (by simp))) 2 rfl rfl rfl fun a hF=>?_
             refine oV hF (aP (hF.at 3 rfl) hF.o) rfl fun a hF=>oM hF 0 rfl rfl fun a hF=>nu hF 0 rfl rfl rfl fun a hF=>nu hF 1 rfl rfl rfl fun a hF=>nu hF 2 rfl rfl rfl fun a hF=>oV hF (aV (hF.at 3 rfl) ah) rfl fun a hF=>oA hF 0 rfl rfl fun a hF=>E.nil<|wp_cond_true hF.o<|wq ?_
             refine oS hF (aQ ah) rfl fun a hF=>nr ?_
             have bel:=st.bel
             refine rt Tryz.results112 hF 0 rfl ?_
             refine⟨bU ?_,bel⟩
             unfold eu
             rw[if_neg (by omega),if_pos (by omega)])
          ·first
           |(exfalso;omega)
           |(refine og hF (ao hF.o ah ab (aL (bC (c:=false) (aH hc7)) (by simp))) 2 rfl rfl rfl fun a hF=>?_
             refine oV hF (aP (hF.at 3 rfl) hF.o) rfl fun a hF=>oM hF 0 rfl rfl fun a hF=>og hF (au (hF.at 21 rfl) (s4 (p:=3) rfl)) 0 rfl rfl rfl fun a hF=>og hF (ar hF.o (cr (v:= iv x) (st.bk 1 rfl) rfl)) 1 rfl rfl rfl fun a hF=>?_
             by_cases hc8:30<x
             ·first
              |(exfalso;omega)
              |(refine og hF (ao hF.o ah ab (aL (cS (c:=true) (aJ hc8)) (by simp))) 2 rfl rfl rfl fun a hF=>?_
                refine oV hF (aP (hF.at 3 rfl) hF.o) rfl fun a hF=>oA hF 0 rfl rfl fun a hF=>E.nil<|wp_cond_true hF.o<|wq ?_
                refine oS hF (aQ ah) rfl fun a hF=>nr ?_
                have bel:=st.bel
                refine rt Tryz.results112 hF 0 rfl ?_
                refine⟨bU ?_,bel⟩
                unfold eu
                rw[if_neg (by omega),if_pos (by omega)])
             ·first
              |(exfalso;omega)
              |(refine og hF (ao hF.o ah ab (aL (cS (c:=false) (aH hc8)) (by simp))) 2 rfl rfl rfl fun a hF=>?_
                refine oV hF (aP (hF.at 3 rfl) hF.o) rfl fun a hF=>oA hF 0 rfl rfl fun a hF=>E.nil<|wp_cond_false hF.o<|wq<|oV hF (au (hF.at 26 rfl) (tJ (p:=0) rfl)) rfl fun a hF=>oV hF (ar hF.o (bi (v:= iv y) (st.bk 1 rfl) rfl)) rfl fun a hF=>?_
                by_cases hc9:y<(-9000)
                ·first
                 |(exfalso;omega)
                 |(refine oT hF 0 (bC (c:=true) (aJ hc9)) rfl rfl fun a hF=>?_
                   refine oM hF 0 rfl rfl fun a hF=>nu hF 0 rfl rfl rfl fun a hF=>nu hF 1 rfl rfl rfl fun a hF=>nu hF 2 rfl rfl rfl fun a hF=>oV hF (aV (hF.at 3 rfl) ah) rfl fun a hF=>oA hF 0 rfl rfl fun a hF=>E.nil<|wp_cond_true hF.o<|wq ?_
                   refine oS hF (aQ ah) rfl fun a hF=>nr ?_
                   have bel:=st.bel
                   refine rt Tryz.results112 hF 0 rfl ?_
                   refine⟨bU ?_,bel⟩
                   unfold eu
                   rw[if_neg (by omega),if_neg (by omega),if_pos (by omega)])
                ·first
                 |(exfalso;omega)
                 |(refine oT hF 0 (bC (c:=false) (aH hc9)) rfl rfl fun a hF=>?_
                   refine oM hF 0 rfl rfl fun a hF=>og hF (au (hF.at 30 rfl) (tJ (p:=0) rfl)) 0 rfl rfl rfl fun a hF=>og hF (ar hF.o (bi (v:= iv y) (st.bk 1 rfl) rfl)) 1 rfl rfl rfl fun a hF=>?_
                   by_cases hc10:9000<y
                   ·first
                    |(exfalso;omega)
                    |(refine og hF (ao hF.o ah ab (aL (cS (c:=true) (aJ hc10)) (by simp))) 2 rfl rfl rfl fun a hF=>?_
                      refine oV hF (aP (hF.at 3 rfl) hF.o) rfl fun a hF=>oA hF 0 rfl rfl fun a hF=>E.nil<|wp_cond_true hF.o<|wq ?_
                      refine oS hF (aQ ah) rfl fun a hF=>nr ?_
                      have bel:=st.bel
                      refine rt Tryz.results112 hF 0 rfl ?_
                      refine⟨bU ?_,bel⟩
                      unfold eu
                      rw[if_neg (by omega),if_neg (by omega),if_pos (by omega)])
                   ·first
                    |(exfalso;omega)
                    |(refine og hF (ao hF.o ah ab (aL (cS (c:=false) (aH hc10)) (by simp))) 2 rfl rfl rfl fun a hF=>?_
                      refine oV hF (aP (hF.at 3 rfl) hF.o) rfl fun a hF=>oA hF 0 rfl rfl fun a hF=>E.nil<|wp_cond_false hF.o<|wp_skip<|E.blk<|E.norm<|wq ?_
                      refine oS hF (aQ ah) rfl fun a hF=>nr ?_
                      have bel:=st.bel
                      refine rt Tryz.results112 hF 0 rfl ?_
                      refine⟨bU ?_,bel⟩
                      unfold eu
                      rw[if_neg (by omega),if_neg (by omega),if_neg (by omega)])))))))
end Go.Proofs.YtgdpkknapcgcbaaGreatDoor
