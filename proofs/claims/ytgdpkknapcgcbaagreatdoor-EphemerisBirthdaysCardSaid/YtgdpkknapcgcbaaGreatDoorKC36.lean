import Derived.Test.YtgdpkknapcgcbaaGreatDoorKC34
import Derived.Test.YtgdpkknapcgcbaaGreatDoorKC35
namespace Go.Proofs.YtgdpkknapcgcbaaGreatDoor
open Go.RowKit
set_option maxRecDepth 100000
set_option linter.unusedVariables false
set_option maxHeartbeats 8000000
theorem Lc (y m:Int):Rat.floor (((-1132959:Int):Rat)+pyr*(((12*(y+3044)+m-2:Int):Rat)/((12:Int):Rat)))=fiE y m:=by
 unfold fiE gu
 rw[show 12*(y+3044)+m-2=12*(y+3044)+(m-2) by omega,Rat.add_comm]
theorem jr (y m:Int) (w:World) (hy0: -9000<=y) (hy1:y<=9000) (hm0:1<=m) (hm1:m<=12):
 CV 169 #[iv y,iv m] w (iv (fiE y m)):=by
 have hfe:=ju hy0 hy1 hm0 hm1
 refine gs2 (nt:=27) Tryz.func169 rfl rfl rfl fun a st hF=>wq ?_
 refine oC hF rfl fun a hF=>nq<|oM hF 1 rfl rfl fun a hF=>oV hF (aq hF.o ao aa (aX (by omega) (by omega))) rfl fun a hF=>oV hF (aq ao hF.o aa (gT (by omega) (by omega))) rfl fun a hF=>oM hF 5 rfl rfl fun a hF=>oV hF (aq hF.p hF.o aa (aX (by omega) (by omega))) rfl fun a hF=>oV hF (aq hF.o ao aa (bB (by omega) (by omega))) rfl fun a hF=>oA hF 0 rfl rfl fun a hF=>nq<|S.ck st hF (rgc zO fR) (nQ) Rl.cl rfl fun vv2 w1 a st hF=>?_
 obtain⟨r4,rfl⟩:=Rq.fo (st.f 0 rfl).1
 refine oM hF 1 rfl rfl fun a hF=>S.ck st hF (rgc k36 (aL hF.o ao)) en Rl.cl rfl fun vv6 w5 a st hF=>?_
 obtain⟨r8,rfl⟩:=Rq.fo (st.f 0 rfl).1
 refine S.ck st hF (rgc dB (aL hF.q hF.o)) (dE (st.f 1 rfl) (st.f 0 rfl)) Rl.cl rfl fun vv10 w9 a st hF=>?_
 obtain⟨r12,rfl⟩:=Rq.fo (st.f 0 rfl).1
 refine S.new st hF 0 rfl ab rfl rfl rfl rfl rfl fun g6 w13 a st hF=>ns ?_
 refine E.rg 9 aM hF [20,21,22,23,19,24,25,7,8] [_,_,_,_,.ex (.tuple #[iv (fiE y m),.bool true]),.ex (iv (fiE y m)),.ex (.bool true),.ex (iv (fiE y m)),.ex (.bool true)] (by decide+kernel) rfl rfl rfl ⟨ck st k40 rfl fun _ s=>dM,rb st ab 0 0 rfl,ck st k76 rfl fun _ s _ x20=>pF x20 (s.f 0 rfl),ck st vi rfl fun _ s _ x22=>bD (Gg _ (((((-1132959):Int):Rat))+((pyr)*(((((12*(y+3044))+m)-2:Int):Rat)/((12:Int):Rat)))) 7 (fiE y m) _ x22.1 x22.2 (by omega) (Lc y m) (by omega) (by omega)),(by intro a' w' hF' hb hd;have e23:=tE hd 0 rfl;exact dv0 (aD e23) rfl rfl rfl),(by intro a' w' hF' hb hd;have e19:=tE hd 0 rfl;exact dv0 (aH (v:= iv (fiE y m)) e19 rfl) rfl rfl rfl),(by intro a' w' hF' hb hd;have e19:=tE hd 0 rfl;exact dv0 (aH (v:= .bool true) e19 rfl) rfl rfl rfl),(by intro a' w' hF' hb hd;have e24:=tE hd 0 rfl;exact dv0 (aZ e24) rfl rfl rfl),(by intro a' w' hF' hb hd;have e25:=tE hd 0 rfl;exact dv0 (aZ e25) rfl rfl rfl),trivial⟩ ?_
 intro a w14 hF bb hall
 replace st:=st.to bb
 replace hF:=rE hall hF 7 rfl rfl
 clear hall bb
 refine nq ?_
 refine oM hF 0 rfl rfl fun a hF=>oE hF 0 rfl rfl fun a hF=>nr ?_
 have bel:=st.bel
 refine rt Tryz.results169 hF 0 rfl ?_
 exact⟨rfl,bel⟩
theorem xj (z0 z1 z2 z3:Int) (y:Int) (w:World) (hy0: -9000<=y) (hy1:y<=9000) (h2:0<=z2) (h3:z2<=11) (hi0:fiE y ((z2+1)%12+1)-5<=z0) (hi1:z0<=fiE y ((z2+1)%12+1)+40):
 CV 171 #[.agg #[iv z0,iv z1,iv z2,iv z3],iv y] w (.bool true):=by
 have hfe:=ju (m:=(z2+1)%12+1) hy0 hy1 (by omega) (by omega)
 refine gs2 (nt:=22) Tryz.func171 rfl rfl rfl fun a st hF=>wq<|bx st hF 0 rfl rfl fun g2 w1 a st hF=>?_
 refine oC hF rfl fun a hF=>nq<|oM hF 3 rfl rfl fun a hF=>oL hF st 2 0 bV rfl rfl rfl rfl fun a hF=>cX st hF (rgc k99 (aG hF.o)) (je z0 z1 z2 z3 _ (by omega) (by omega)) rfl fun w2 a st hF=>cX st hF (rgc DP (aL hF.q hF.o)) (jr y ((z2+1)%12+1) _ (by omega) (by omega) (by omega) (by omega)) rfl fun w3 a st hF=>?_
 refine oA hF 0 rfl rfl fun a hF=>nq<|oV hF (az (hF.at 6 rfl) (jD (p:=0) rfl)) rfl fun a hF=>oV hF (ar hF.o (bl (v:= iv z0) (st.bk 0 rfl) rfl)) rfl fun a hF=>oM hF 2 rfl rfl fun a hF=>oV hF (aq hF.o ao aa (bB (by omega) (by omega))) rfl fun a hF=>?_
 by_cases hc4:(fiE y ((z2+1)%12+1))-5<=z0
 ·first
  |(exfalso;omega)
  |(refine oU hF 2 0 (dI (c:=true) (aI hc4)) rfl rfl rfl fun a hF=>?_
    refine oM hF 0 rfl rfl fun a hF=>og hF (az (hF.at 12 rfl) (jD (p:=0) rfl)) 0 rfl rfl rfl fun a hF=>og hF (ar hF.o (bl (v:= iv z0) (st.bk 0 rfl) rfl)) 1 rfl rfl rfl fun a hF=>og hF (aD (hF.at 8 rfl)) 2 rfl rfl rfl fun a hF=>og hF (aq hF.o ao aa (aX (by omega) (by omega))) 3 rfl rfl rfl fun a hF=>?_
    by_cases hc5:z0<=(fiE y ((z2+1)%12+1))+40
    ·first
     |(exfalso;omega)
     |(refine og hF (aq hF.q hF.o aa (aO (cg (c:=true) (aI hc5)) (by simp))) 4 rfl rfl rfl fun a hF=>?_
       refine oV hF (aK (hF.at 5 rfl) hF.o) rfl fun a hF=>oE hF 0 rfl rfl fun a hF=>nr ?_
       have bel:=st.bel
       refine rt Tryz.results171 hF 0 rfl ?_
       exact⟨rfl,bel⟩)
    ·first
     |(exfalso;omega)
     |(refine og hF (aq hF.q hF.o aa (aO (cg (c:=false) (aJ hc5)) (by simp))) 4 rfl rfl rfl fun a hF=>?_
       refine oV hF (aK (hF.at 5 rfl) hF.o) rfl fun a hF=>oE hF 0 rfl rfl fun a hF=>nr ?_
       have bel:=st.bel
       refine rt Tryz.results171 hF 0 rfl ?_
       exfalso;omega))
 ·first
  |(exfalso;omega)
  |(refine oU hF 2 0 (dI (c:=false) (aJ hc4)) rfl rfl rfl fun a hF=>?_
    refine oM hF 0 rfl rfl fun a hF=>nu hF 0 rfl rfl rfl fun a hF=>nu hF 1 rfl rfl rfl fun a hF=>nu hF 2 rfl rfl rfl fun a hF=>nu hF 3 rfl rfl rfl fun a hF=>nu hF 4 rfl rfl rfl fun a hF=>oV hF (aQ (hF.at 5 rfl) ao) rfl fun a hF=>?_
    refine oE hF 0 rfl rfl fun a hF=>nr ?_
    have bel:=st.bel
    refine rt Tryz.results171 hF 0 rfl ?_
    exfalso;omega)
theorem wZ (z0 z1 z2 z3:Int) (y:Int) (w:World) (hy0: -9000<=y) (hy1:y<=9000) (h2:0<=z2) (h3:z2<=11) (hi:¬(fiE y ((z2+1)%12+1)-5<=z0/\z0<=fiE y ((z2+1)%12+1)+40)):
 CV 171 #[.agg #[iv z0,iv z1,iv z2,iv z3],iv y] w (.bool false):=by
 have hfe:=ju (m:=(z2+1)%12+1) hy0 hy1 (by omega) (by omega)
 refine gs2 (nt:=22) Tryz.func171 rfl rfl rfl fun a st hF=>wq<|bx st hF 0 rfl rfl fun g2 w1 a st hF=>?_
 refine oC hF rfl fun a hF=>nq<|oM hF 3 rfl rfl fun a hF=>oL hF st 2 0 bV rfl rfl rfl rfl fun a hF=>cX st hF (rgc k99 (aG hF.o)) (je z0 z1 z2 z3 _ (by omega) (by omega)) rfl fun w2 a st hF=>cX st hF (rgc DP (aL hF.q hF.o)) (jr y ((z2+1)%12+1) _ (by omega) (by omega) (by omega) (by omega)) rfl fun w3 a st hF=>?_
 refine oA hF 0 rfl rfl fun a hF=>nq<|oV hF (az (hF.at 6 rfl) (jD (p:=0) rfl)) rfl fun a hF=>oV hF (ar hF.o (bl (v:= iv z0) (st.bk 0 rfl) rfl)) rfl fun a hF=>oM hF 2 rfl rfl fun a hF=>oV hF (aq hF.o ao aa (bB (by omega) (by omega))) rfl fun a hF=>?_
 by_cases hc4:(fiE y ((z2+1)%12+1))-5<=z0
 ·first
  |(exfalso;omega)
  |(refine oU hF 2 0 (dI (c:=true) (aI hc4)) rfl rfl rfl fun a hF=>?_
    refine oM hF 0 rfl rfl fun a hF=>og hF (az (hF.at 12 rfl) (jD (p:=0) rfl)) 0 rfl rfl rfl fun a hF=>og hF (ar hF.o (bl (v:= iv z0) (st.bk 0 rfl) rfl)) 1 rfl rfl rfl fun a hF=>og hF (aD (hF.at 8 rfl)) 2 rfl rfl rfl fun a hF=>og hF (aq hF.o ao aa (aX (by omega) (by omega))) 3 rfl rfl rfl fun a hF=>?_
    by_cases hc5:z0<=(fiE y ((z2+1)%12+1))+40
    ·first
     |(exfalso;omega)
     |(refine og hF (aq hF.q hF.o aa (aO (cg (c:=true) (aI hc5)) (by simp))) 4 rfl rfl rfl fun a hF=>?_
       refine oV hF (aK (hF.at 5 rfl) hF.o) rfl fun a hF=>oE hF 0 rfl rfl fun a hF=>nr ?_
       have bel:=st.bel
       refine rt Tryz.results171 hF 0 rfl ?_
       exfalso;omega)
    ·first
     |(exfalso;omega)
     |(refine og hF (aq hF.q hF.o aa (aO (cg (c:=false) (aJ hc5)) (by simp))) 4 rfl rfl rfl fun a hF=>?_
       refine oV hF (aK (hF.at 5 rfl) hF.o) rfl fun a hF=>oE hF 0 rfl rfl fun a hF=>nr ?_
       have bel:=st.bel
       refine rt Tryz.results171 hF 0 rfl ?_
       exact⟨rfl,bel⟩))
 ·first
  |(exfalso;omega)
  |(refine oU hF 2 0 (dI (c:=false) (aJ hc4)) rfl rfl rfl fun a hF=>?_
    refine oM hF 0 rfl rfl fun a hF=>nu hF 0 rfl rfl rfl fun a hF=>nu hF 1 rfl rfl rfl fun a hF=>nu hF 2 rfl rfl rfl fun a hF=>nu hF 3 rfl rfl rfl fun a hF=>nu hF 4 rfl rfl rfl fun a hF=>oV hF (aQ (hF.at 5 rfl) ao) rfl fun a hF=>?_
    refine oE hF 0 rfl rfl fun a hF=>nr ?_
    have bel:=st.bel
    refine rt Tryz.results171 hF 0 rfl ?_
    exact⟨rfl,bel⟩)
theorem hO (y m:Int) (l:Bool) (x:Int) (u:Bool) (xa xb xc xd:Int) (w:World):
 CV 112 #[.agg #[iv y,iv m,.bool l,iv x,.bool u],.agg #[iv xa,iv xb,iv xc,iv xd]] w (iv (ff y m x xa xb xc xd)):=by
 refine gs2 (nt:=39) Tryz.func112 rfl rfl rfl fun a st hF=>wq<|bx st hF 0 rfl rfl fun g2 w1 a st hF=>bx st hF 2 rfl rfl fun g3 w2 a st hF=>?_
 refine oC hF rfl fun a hF=>ns<|wq<|oL hF st 1 0 be rfl rfl rfl rfl fun a hF=>cX st hF (rgc k37 (aG hF.o)) (Ec xa xb xc xd _) rfl fun w3 a st hF=>?_
 refine oA hF 0 rfl rfl fun a hF=>nq<|oM hF 0 rfl rfl fun a hF=>?_
 by_cases hc4:plE xa xb xc xd≠0
 ·first
  |(exfalso;omega)
  |(refine oT hF 0 (db (c:=true) (aI hc4)) rfl rfl fun a hF=>?_
    refine E.nil<|wp_cond_true hF.o<|wq ?_
    refine oM hF 2 rfl rfl fun a hF=>oE hF 0 rfl rfl fun a hF=>nr ?_
    have bel:=st.bel
    refine rt Tryz.results112 hF 0 rfl ?_
    refine⟨ch ?_,bel⟩
    unfold ff
    rw[if_pos (by omega)])
 ·first
  |(exfalso;omega)
  |(refine oT hF 0 (db (c:=false) (aJ hc4)) rfl rfl fun a hF=>?_
    refine E.nil<|wp_cond_false hF.o<|wp_skip<|E.norm<|wp_seq<|wp_block<|wq<|oV hF (az (hF.at 7 rfl) (ig (p:=1) rfl)) rfl fun a hF=>oV hF (ar hF.o (bQ (v:= iv m) (st.bk 1 rfl) rfl)) rfl fun a hF=>?_
    by_cases hc5:m<1
    ·first
     |(exfalso;omega)
     |(refine oT hF 0 (aY (c:=true) (aI hc5)) rfl rfl fun a hF=>?_
       refine oM hF 0 rfl rfl fun a hF=>nu hF 0 rfl rfl rfl fun a hF=>nu hF 1 rfl rfl rfl fun a hF=>nu hF 2 rfl rfl rfl fun a hF=>oV hF (aK (hF.at 3 rfl) ao) rfl fun a hF=>oM hF 0 rfl rfl fun a hF=>nu hF 0 rfl rfl rfl fun a hF=>nu hF 1 rfl rfl rfl fun a hF=>nu hF 2 rfl rfl rfl fun a hF=>oV hF (aK (hF.at 3 rfl) ao) rfl fun a hF=>oM hF 0 rfl rfl fun a hF=>nu hF 0 rfl rfl rfl fun a hF=>nu hF 1 rfl rfl rfl fun a hF=>nu hF 2 rfl rfl rfl fun a hF=>?_
       refine oV hF (aK (hF.at 3 rfl) ao) rfl fun a hF=>oA hF 0 rfl rfl fun a hF=>E.nil<|wp_cond_true hF.o<|wq ?_
       refine oS hF (aZ ao) rfl fun a hF=>nr ?_
       have bel:=st.bel
       refine rt Tryz.results112 hF 0 rfl ?_
       refine⟨ch ?_,bel⟩
       unfold ff
       rw[if_neg (by omega),if_pos (by omega)])
    ·first
     |(exfalso;omega)
     |(refine oT hF 0 (aY (c:=false) (aJ hc5)) rfl rfl fun a hF=>?_
       refine oM hF 0 rfl rfl fun a hF=>og hF (az (hF.at 11 rfl) (ig (p:=1) rfl)) 0 rfl rfl rfl fun a hF=>og hF (ar hF.o (bQ (v:= iv m) (st.bk 1 rfl) rfl)) 1 rfl rfl rfl fun a hF=>?_
       by_cases hc6:12<m
       ·first
        |(exfalso;omega)
        |(refine og hF (aq hF.o ao aa (aO (bT (c:=true) (aI hc6)) (by simp))) 2 rfl rfl rfl fun a hF=>?_
          refine oV hF (aQ (hF.at 3 rfl) hF.o) rfl fun a hF=>oM hF 0 rfl rfl fun a hF=>nu hF 0 rfl rfl rfl fun a hF=>nu hF 1 rfl rfl rfl fun a hF=>nu hF 2 rfl rfl rfl fun a hF=>oV hF (aK (hF.at 3 rfl) ao) rfl fun a hF=>oM hF 0 rfl rfl fun a hF=>nu hF 0 rfl rfl rfl fun a hF=>nu hF 1 rfl rfl rfl fun a hF=>nu hF 2 rfl rfl rfl fun a hF=>oV hF (aK (hF.at 3 rfl) ao) rfl fun a hF=>oA hF 0 rfl rfl fun a hF=>?_
          refine E.nil<|wp_cond_true hF.o<|wq ?_
          refine oS hF (aZ ao) rfl fun a hF=>nr ?_
          have bel:=st.bel
          refine rt Tryz.results112 hF 0 rfl ?_
          refine⟨ch ?_,bel⟩
          unfold ff
          rw[if_neg (by omega),if_pos (by omega)])
       ·first
        |(exfalso;omega)
        |(refine og hF (aq hF.o ao aa (aO (bT (c:=false) (aJ hc6)) (by simp))) 2 rfl rfl rfl fun a hF=>?_
          refine oV hF (aQ (hF.at 3 rfl) hF.o) rfl fun a hF=>oM hF 0 rfl rfl fun a hF=>og hF (az (hF.at 16 rfl) (qf (p:=3) rfl)) 0 rfl rfl rfl fun a hF=>og hF (ar hF.o (bQ (v:= iv x) (st.bk 1 rfl) rfl)) 1 rfl rfl rfl fun a hF=>?_
          by_cases hc7:x<1
          ·first
           |(exfalso;omega)
           |(refine og hF (aq hF.o ao aa (aO (aY (c:=true) (aI hc7)) (by simp))) 2 rfl rfl rfl fun a hF=>?_
             refine oV hF (aQ (hF.at 3 rfl) hF.o) rfl fun a hF=>oM hF 0 rfl rfl fun a hF=>nu hF 0 rfl rfl rfl fun a hF=>nu hF 1 rfl rfl rfl fun a hF=>nu hF 2 rfl rfl rfl fun a hF=>oV hF (aK (hF.at 3 rfl) ao) rfl fun a hF=>oA hF 0 rfl rfl fun a hF=>E.nil<|wp_cond_true hF.o<|wq ?_
             refine oS hF (aZ ao) rfl fun a hF=>nr ?_
             have bel:=st.bel
             refine rt Tryz.results112 hF 0 rfl ?_
             refine⟨ch ?_,bel⟩
             unfold ff
             rw[if_neg (by omega),if_pos (by omega)])
          ·first
           |(exfalso;omega)
           |(refine og hF (aq hF.o ao aa (aO (aY (c:=false) (aJ hc7)) (by simp))) 2 rfl rfl rfl fun a hF=>?_
             refine oV hF (aQ (hF.at 3 rfl) hF.o) rfl fun a hF=>oM hF 0 rfl rfl fun a hF=>og hF (az (hF.at 21 rfl) (qf (p:=3) rfl)) 0 rfl rfl rfl fun a hF=>og hF (ar hF.o (bQ (v:= iv x) (st.bk 1 rfl) rfl)) 1 rfl rfl rfl fun a hF=>?_
             by_cases hc8:30<x
             ·first
              |(exfalso;omega)
              |(refine og hF (aq hF.o ao aa (aO (bT (c:=true) (aI hc8)) (by simp))) 2 rfl rfl rfl fun a hF=>?_
                refine oV hF (aQ (hF.at 3 rfl) hF.o) rfl fun a hF=>oA hF 0 rfl rfl fun a hF=>E.nil<|wp_cond_true hF.o<|wq ?_
                refine oS hF (aZ ao) rfl fun a hF=>nr ?_
                have bel:=st.bel
                refine rt Tryz.results112 hF 0 rfl ?_
                refine⟨ch ?_,bel⟩
                unfold ff
                rw[if_neg (by omega),if_pos (by omega)])
             ·first
              |(exfalso;omega)
              |(refine og hF (aq hF.o ao aa (aO (bT (c:=false) (aJ hc8)) (by simp))) 2 rfl rfl rfl fun a hF=>?_
                refine oV hF (aQ (hF.at 3 rfl) hF.o) rfl fun a hF=>oA hF 0 rfl rfl fun a hF=>E.nil<|wp_cond_false hF.o<|wq<|oV hF (az (hF.at 26 rfl) (ik (p:=0) rfl)) rfl fun a hF=>oV hF (ar hF.o (bl (v:= iv y) (st.bk 1 rfl) rfl)) rfl fun a hF=>?_
                by_cases hc9:y<(-9000)
                ·first
                 |(exfalso;omega)
                 |(refine oT hF 0 (aY (c:=true) (aI hc9)) rfl rfl fun a hF=>?_
                   refine oM hF 0 rfl rfl fun a hF=>nu hF 0 rfl rfl rfl fun a hF=>nu hF 1 rfl rfl rfl fun a hF=>nu hF 2 rfl rfl rfl fun a hF=>oV hF (aK (hF.at 3 rfl) ao) rfl fun a hF=>oA hF 0 rfl rfl fun a hF=>E.nil<|wp_cond_true hF.o<|wq ?_
                   refine oS hF (aZ ao) rfl fun a hF=>nr ?_
                   have bel:=st.bel
                   refine rt Tryz.results112 hF 0 rfl ?_
                   refine⟨ch ?_,bel⟩
                   unfold ff
                   rw[if_neg (by omega),if_neg (by omega),if_pos (by omega)])
                ·first
                 |(exfalso;omega)
                 |(refine oT hF 0 (aY (c:=false) (aJ hc9)) rfl rfl fun a hF=>?_
                   refine oM hF 0 rfl rfl fun a hF=>og hF (az (hF.at 30 rfl) (ik (p:=0) rfl)) 0 rfl rfl rfl fun a hF=>og hF (ar hF.o (bl (v:= iv y) (st.bk 1 rfl) rfl)) 1 rfl rfl rfl fun a hF=>?_
                   by_cases hc10:9000<y
                   ·first
                    |(exfalso;omega)
                    |(refine og hF (aq hF.o ao aa (aO (bT (c:=true) (aI hc10)) (by simp))) 2 rfl rfl rfl fun a hF=>?_
                      refine oV hF (aQ (hF.at 3 rfl) hF.o) rfl fun a hF=>oA hF 0 rfl rfl fun a hF=>E.nil<|wp_cond_true hF.o<|wq ?_
                      refine oS hF (aZ ao) rfl fun a hF=>nr ?_
                      have bel:=st.bel
                      refine rt Tryz.results112 hF 0 rfl ?_
                      refine⟨ch ?_,bel⟩
                      unfold ff
                      rw[if_neg (by omega),if_neg (by omega),if_pos (by omega)])
                   ·first
                    |(exfalso;omega)
                    |(refine og hF (aq hF.o ao aa (aO (bT (c:=false) (aJ hc10)) (by simp))) 2 rfl rfl rfl fun a hF=>?_
                      refine oV hF (aQ (hF.at 3 rfl) hF.o) rfl fun a hF=>oA hF 0 rfl rfl fun a hF=>E.nil<|wp_cond_false hF.o<|wp_skip<|E.blk<|E.norm<|wq ?_
                      refine oS hF (aZ ao) rfl fun a hF=>nr ?_
                      have bel:=st.bel
                      refine rt Tryz.results112 hF 0 rfl ?_
                      refine⟨ch ?_,bel⟩
                      unfold ff
                      rw[if_neg (by omega),if_neg (by omega),if_neg (by omega)])))))))
theorem iT (y m:Int) (w:World) (hT:bE w) (hy0: -9000<=y) (hy1:y<=9000) (hm0:1<=m) (hm1:m<=12):
 CP 113 #[iv y,iv m] w (fun e w'=>∃ad cap,e= .returned (.slice ad (fiL y m).length cap)/\dW w' 4 72 w.heap.size (.slice ad (fiL y m).length cap) (fiL y m).length (iJ (fiL y m))/\Below w.heap.size w w'):=by
 have hst:=kJ y m
 have hfe:=ju hy0 hy1 hm0 hm1
 have bel:Below w.heap.size w w:=Below.refl _ _
 refine go2 (nt:=37) Tryz.func113 rfl rfl rfl fun a hF=>wq ?_
 refine oC hF rfl fun a hF=>nq<|oM hF 1 rfl rfl fun a hF=>oM hF 3 rfl rfl fun a hF=>?_
 refine E.call hF (rk Q2 (aL hF.p hF.o)) (jr y m _ (by omega) (by omega) (by omega) (by omega)) rfl rfl rfl rfl ?_
 rintro e w1 ⟨rfl,bb⟩
 refine⟨_,rfl,?_⟩
 intro a hF
 replace bel:=aF bel bb
 clear bb
 refine oV hF (aq hF.o ao aa (bB (by omega) (by omega))) rfl fun a hF=>?_
 refine E.call hF (rk Pz (aG hF.o)) (gp ((fiE y m)-5) _ (by omega) (by omega)) rfl rfl rfl rfl ?_
 rintro e w2 ⟨vv3,rfl,hh4,bb⟩
 refine⟨_,rfl,?_⟩
 intro a hF
 replace bel:=aF bel bb
 clear bb
 obtain⟨b5,ad5,n5,c5,ae5,m5,d5,rfl,hn5,hd5⟩:=Rq.shape hh4
 have hf6:=Wc.abs hn5
 obtain⟨g5,w7,ge5,hr,bb,o5⟩:=eo (P:=Tryz.prog) (w:=w2) (cs:=[.bool false,.slice none 0 0,.slice none 0 0]) 33 lE rfl (niB (niS (niS ni0)))
 replace ge5:w.heap.size<=g5:=by rw[<-ge5];exact bel.size
 refine oV hF (dP hr) rfl fun a hF=>?_
 clear hr
 replace hh4:=hh4.below bb
 replace hn5:=hn5.below bb
 replace hf6:=hf6.below bb
 replace hd5:=hd5.below bb
 replace bel:=aF bel bb
 clear bb
 obtain⟨w8,hr,tu,on⟩:=qn (vs:=[.bool b5,.slice ad5 n5 c5,.slice ae5 m5 d5]) o5 rfl rfl (ocB (ocS (ocS oc0))) (niB (niS (niS ni0))) (o:=0) rfl
 have kp:=tu.keep o5
 refine E.st hF (cT hF.o hF.p (hr _ rfl)) rfl rfl fun a hF=>?_
 clear hr
 replace hh4:=hh4.keep kp
 replace hn5:=hn5.keep kp
 replace hf6:=hf6.keep kp
 replace hd5:=hd5.keep kp
 replace bel:=tu.below bel ge5
 clear tu kp
 replace o5:=on
 clear on
 refine nq ?_
 obtain⟨gl9,w10,egl9,hr,bb,hia0⟩:=H4 w8 w.heap.size bel.size
 refine oV hF (bO (by simp) hr) rfl fun a hF=>?_
 clear hr
 replace hf6:=hf6.below bb
 replace hd5:=hd5.below bb
 replace hh4:=hh4.below bb
 replace hn5:=hn5.below bb
 replace o5:=o5.below bb
 replace bel:=aF bel bb
 clear bb
 refine oA hF 0 rfl rfl fun a hF=>ns<|wq<|oV hF (ar hF.q (fM (vs:=[.bool b5,.slice ad5 n5 c5,.slice ae5 m5 d5]) o5 rfl rfl)) rfl fun a hF=>?_
 have hax:=hia0.lt
 refine E.call hF (rk Rv (aL hF.o ao)) (Fa 3 3 _ ((((fiE y m)-5:Int):Rat)) 2 _ (hT.below bel) hh4 (cK (co (by omega) (by omega)) (by omega)) (by omega) (by rw[Rat.floor_intCast];omega) (by rw[Rat.floor_intCast];omega) (by decide)) rfl rfl rfl rfl ?_
 rintro e w11 ⟨_,cap,rfl,hir,bb⟩
 refine⟨_,rfl,?_⟩
 intro a hF
 obtain⟨gr,more,rfl,_,hge,orow⟩:=hir.row (by decide)
 have hnvr:(Value.slice (some ⟨gl9,0,none⟩) 0 0).ownBlock ≠some gr:=fun e=>by have:=(hax _ e).2;omega
 clear hir hax
 replace hia0:=hia0.below bb
 replace bel:=aF bel bb
 clear bb
 refine oV hF (aW (aG hF.o) iY) rfl fun a hF=>oV hF (aD ao) rfl fun a hF=>E.nil<|wp_block ?_
 refine E.loop (fun mq a wv=>∃(k:Nat) (la:Option Addr) (lc:Nat),k<=3/\(Value.slice la (fiU y m (aA (((fiE y m-5:Int)):Rat)) k).length lc).ownBlock ≠some gr/\Fr 37 a [(18,iv ((k:Nat):Int)),(17,iv ((3:Nat):Int)),(16,.slice (some ⟨gr,0,none⟩) 3 cap),(6,.slice la (fiU y m (aA (((fiE y m-5:Int)):Rat)) k).length lc),(4,.slice none 0 0),(0,iv y),(1,iv m)]/\Below w.heap.size w wv/\dW wv 4 72 w.heap.size (.slice la (fiU y m (aA (((fiE y m-5:Int)):Rat)) k).length lc) (fiU y m (aA (((fiE y m-5:Int)):Rat)) k).length (iJ (fiU y m (aA (((fiE y m-5:Int)):Rat)) k))/\Blk wv gr (moR (aA (((fiE y m-5:Int)):Rat)) 3++more)/\mq=3-k) (3-0) ?_ ?_
 ·exact⟨0,((some ⟨gl9,0,none⟩)),0,(by omega),hnvr,Fr.sub (L':=[(18,iv ((0:Nat):Int)),(17,iv ((3:Nat):Int)),(16,.slice (some ⟨gr,0,none⟩) 3 cap),(6,.slice (some ⟨gl9,0,none⟩) 0 0),(4,.slice none 0 0),(0,iv y),(1,iv m)]) hF (by intro p hp;simp only [List.mem_cons,List.not_mem_nil,or_false] at hp ⊢;rcases hp with rfl|rfl|rfl|rfl|rfl|rfl|rfl <;> simp),bel,hia0,orow,rfl⟩
 ·rintro mq a w12 ⟨k,la,lc,hk,hnvr,hF,bel,hia,orow,hm⟩
  by_cases hlt:k<3
  ·have hmb:=vc hst.2.2 k
   have hul:(fiU y m (aA (((fiE y m-5:Int)):Rat)) k).length <=3:=Ma y m _ hk
   refine wq ?_
   refine oU hF 0 1 (aY (c:=true) (aI (by omega))) rfl rfl rfl fun a hF=>ns<|wp_cond_true hF.o<|wp_skip<|E.norm<|wp_seq<|wp_block<|wq<|oV hF (bS (hF.at 3 rfl) hF.p (oe (i:=k) (by omega) (by omega))) rfl fun a hF=>oV hF (ar hF.o (jn (vs:=[iv (moD (aA (((fiE y m-5:Int)):Rat)) k),iv (aw (moD (aA (((fiE y m-5:Int)):Rat)) k)),iv (smV (moD (aA (((fiE y m-5:Int)):Rat)) k)%12),iv (smV (aw (moD (aA (((fiE y m-5:Int)):Rat)) k))%12)]) orow (Av _ _ (by omega)) rfl)) rfl fun a hF=>?_
   obtain⟨g8,w13,ge8,hr,bb,o8⟩:=jI (P:=Tryz.prog) (w:=w12) (cs:=[iv 0,iv 0,iv 0,iv 0]) 72 zY rfl
   have nerow_8:gr≠g8:=by rw[<-ge8];exact orow.ne_new
   have gk8:=Nat.le_of_eq ge8
   have bk8:=bb
   have kb8_0:=hia
   replace ge8:w.heap.size<=g8:=by rw[<-ge8];exact bel.size
   refine oV hF (dP hr) rfl fun a hF=>?_
   clear hr
   replace hia:=hia.below bb
   replace orow:=orow.below bb
   replace bel:=aF bel bb
   clear bb
   obtain⟨w14,hr,tu,on⟩:=ML (vs:=[iv (moD (aA (((fiE y m-5:Int)):Rat)) k),iv (aw (moD (aA (((fiE y m-5:Int)):Rat)) k)),iv (smV (moD (aA (((fiE y m-5:Int)):Rat)) k)%12),iv (smV (aw (moD (aA (((fiE y m-5:Int)):Rat)) k))%12)]) o8 rfl rfl (ocI (ocI (ocI (ocI oc0)))) (o:=0) rfl
   refine E.st hF (cT hF.o hF.p (hr _ rfl)) rfl rfl fun a hF=>?_
   clear hr
   have bq:=tu.below bk8 gk8
   replace hia:=kb8_0.below bq
   clear kb8_0
   clear bq bk8 gk8
   replace orow:=tu.blk orow nerow_8
   replace bel:=tu.below bel ge8
   clear tu
   replace o8:=on
   clear on
   refine nq<|oV hF (ar hF.o (jn (vs:=[iv (moD (aA (((fiE y m-5:Int)):Rat)) k),iv (aw (moD (aA (((fiE y m-5:Int)):Rat)) k)),iv (smV (moD (aA (((fiE y m-5:Int)):Rat)) k)%12),iv (smV (aw (moD (aA (((fiE y m-5:Int)):Rat)) k))%12)]) o8 rfl rfl)) rfl fun a hF=>?_
   refine E.call hF (rk R8 (aG hF.o)) (je (moD (aA (((fiE y m-5:Int)):Rat)) k) (aw (moD (aA (((fiE y m-5:Int)):Rat)) k)) (smV (moD (aA (((fiE y m-5:Int)):Rat)) k)%12) (smV (aw (moD (aA (((fiE y m-5:Int)):Rat)) k))%12) _ (by omega) (by omega)) rfl rfl rfl rfl ?_
   rintro e w15 ⟨rfl,bb⟩
   refine⟨_,rfl,?_⟩
   intro a hF
   replace hia:=hia.below bb
   replace orow:=orow.below bb
   replace o8:=o8.below bb
   replace bel:=aF bel bb
   clear bb
   refine oM hF 12 rfl rfl fun a hF=>?_
   by_cases hc16:(smV (moD (aA (((fiE y m-5:Int)):Rat)) k)%12+1)%12+1=m
   ·refine oU hF 1 0 (aV (c:=true) (aI (hc16))) rfl rfl rfl fun a hF=>oM hF 0 rfl rfl fun a hF=>og hF (ar (hF.at 5 rfl) (jn (vs:=[iv (moD (aA (((fiE y m-5:Int)):Rat)) k),iv (aw (moD (aA (((fiE y m-5:Int)):Rat)) k)),iv (smV (moD (aA (((fiE y m-5:Int)):Rat)) k)%12),iv (smV (aw (moD (aA (((fiE y m-5:Int)):Rat)) k))%12)]) o8 rfl rfl)) 0 rfl rfl rfl fun a hF=>og hF (aD (hF.at 15 rfl)) 1 rfl rfl rfl fun a hF=>?_
    by_cases hc17:fiE y m-5<=moD (aA (((fiE y m-5:Int)):Rat)) k/\moD (aA (((fiE y m-5:Int)):Rat)) k<=fiE y m+40
    ·refine E.callg hF (rk Kk (aL hF.p hF.o)) (xj (moD (aA (((fiE y m-5:Int)):Rat)) k) (aw (moD (aA (((fiE y m-5:Int)):Rat)) k)) (smV (moD (aA (((fiE y m-5:Int)):Rat)) k)%12) (smV (aw (moD (aA (((fiE y m-5:Int)):Rat)) k))%12) y _ hy0 hy1 (by omega) (by omega) (by rw[hc16];exact hc17.1) (by rw[hc16];exact hc17.2)) (au rfl rfl hF.q rfl) rfl rfl rfl ?_
     rintro e w18 ⟨rfl,bb⟩
     refine⟨_,rfl,?_⟩
     intro a hF
     replace hia:=hia.below bb
     replace orow:=orow.below bb
     replace o8:=o8.below bb
     replace bel:=aF bel bb
     clear bb
     refine oV hF (aK (hF.at 3 rfl) hF.o) rfl fun a hF=>E.nil<|wp_cond_true hF.o<|E.seq<|oM hF 16 rfl rfl fun a hF=>oV hF (ar (hF.at 10 rfl) (jn (vs:=[iv (moD (aA (((fiE y m-5:Int)):Rat)) k),iv (aw (moD (aA (((fiE y m-5:Int)):Rat)) k)),iv (smV (moD (aA (((fiE y m-5:Int)):Rat)) k)%12),iv (smV (aw (moD (aA (((fiE y m-5:Int)):Rat)) k))%12)]) o8 rfl rfl)) rfl fun a hF=>?_
     obtain⟨gl19,w20,egl19,hr,bb,ogl19⟩:=JN w18 (moD (aA (((fiE y m-5:Int)):Rat)) k) (aw (moD (aA (((fiE y m-5:Int)):Rat)) k)) (smV (moD (aA (((fiE y m-5:Int)):Rat)) k)%12) (smV (aw (moD (aA (((fiE y m-5:Int)):Rat)) k))%12)
     refine oV hF (bO (eQ hF.o) hr) rfl fun a hF=>?_
     clear hr egl19
     replace hia:=hia.below bb
     replace orow:=orow.below bb
     replace bel:=aF bel bb
     clear bb
     obtain⟨la21,lc22,w23,hr,hib,gg,bb,hne⟩:=Hy hia ogl19 (by omega) bel.size
     refine oV hF (aW (aL hF.q hF.o) hr) rfl fun a hF=>?_
     clear hr
     have hmvr:=hne _ orow.lt hnvr
     replace orow:=Blk.grown orow gg (fun e=>hnvr e.symm)
     replace hnvr:=hmvr
     clear hmvr
     replace bel:=bel.trans bb
     clear bb gg hne
     refine E.opset (L':=[(6,.slice la21 ((fiU y m (aA (((fiE y m-5:Int)):Rat)) k).length +1) lc22),(34,.slice la21 ((fiU y m (aA (((fiE y m-5:Int)):Rat)) k).length +1) lc22),(33,.slice (some ⟨gl19,0,none⟩) 1 1),(32,.agg #[iv (moD (aA (((fiE y m-5:Int)):Rat)) k),iv (aw (moD (aA (((fiE y m-5:Int)):Rat)) k)),iv (smV (moD (aA (((fiE y m-5:Int)):Rat)) k)%12),iv (smV (aw (moD (aA (((fiE y m-5:Int)):Rat)) k))%12)]),(31,.slice la (fiU y m (aA (((fiE y m-5:Int)):Rat)) k).length lc),(30,.bool true),(29,.bool true),(28,iv y),(27,.agg #[iv (moD (aA (((fiE y m-5:Int)):Rat)) k),iv (aw (moD (aA (((fiE y m-5:Int)):Rat)) k)),iv (smV (moD (aA (((fiE y m-5:Int)):Rat)) k)%12),iv (smV (aw (moD (aA (((fiE y m-5:Int)):Rat)) k))%12)]),(26,.bool true),(25,.bool true),(24,iv m),(23,iv (((smV (moD (aA (((fiE y m-5:Int)):Rat)) k)%12)+1)%12+1)),(22,.agg #[iv (moD (aA (((fiE y m-5:Int)):Rat)) k),iv (aw (moD (aA (((fiE y m-5:Int)):Rat)) k)),iv (smV (moD (aA (((fiE y m-5:Int)):Rat)) k)%12),iv (smV (aw (moD (aA (((fiE y m-5:Int)):Rat)) k))%12)]),(8,.pointer (some ⟨g8,0,none⟩)),(21,.agg #[iv (moD (aA (((fiE y m-5:Int)):Rat)) k),iv (aw (moD (aA (((fiE y m-5:Int)):Rat)) k)),iv (smV (moD (aA (((fiE y m-5:Int)):Rat)) k)%12),iv (smV (aw (moD (aA (((fiE y m-5:Int)):Rat)) k))%12)]),(20,.pointer (some ⟨gr,4*k,none⟩)),(19,.bool true),(18,iv ((k:Nat):Int)),(17,iv ((3:Nat):Int)),(16,.slice (some ⟨gr,0,none⟩) 3 cap),(4,.slice none 0 0),(0,iv y),(1,iv m)]) hF (aZ hF.o) rfl rfl rfl rfl fun a hF=>?_
     refine E.nil0<|E.blk<|E.norm<|E.seq<|oV hF (aq (hF.at 18 rfl) ao aa (aX (by omega) (by omega))) rfl fun a hF=>?_
     refine E.opset (L':=[(18,iv (((k:Nat):Int)+1)),(35,iv (((k:Nat):Int)+1)),(6,.slice la21 ((fiU y m (aA (((fiE y m-5:Int)):Rat)) k).length +1) lc22),(34,.slice la21 ((fiU y m (aA (((fiE y m-5:Int)):Rat)) k).length +1) lc22),(33,.slice (some ⟨gl19,0,none⟩) 1 1),(32,.agg #[iv (moD (aA (((fiE y m-5:Int)):Rat)) k),iv (aw (moD (aA (((fiE y m-5:Int)):Rat)) k)),iv (smV (moD (aA (((fiE y m-5:Int)):Rat)) k)%12),iv (smV (aw (moD (aA (((fiE y m-5:Int)):Rat)) k))%12)]),(31,.slice la (fiU y m (aA (((fiE y m-5:Int)):Rat)) k).length lc),(30,.bool true),(29,.bool true),(28,iv y),(27,.agg #[iv (moD (aA (((fiE y m-5:Int)):Rat)) k),iv (aw (moD (aA (((fiE y m-5:Int)):Rat)) k)),iv (smV (moD (aA (((fiE y m-5:Int)):Rat)) k)%12),iv (smV (aw (moD (aA (((fiE y m-5:Int)):Rat)) k))%12)]),(26,.bool true),(25,.bool true),(24,iv m),(23,iv (((smV (moD (aA (((fiE y m-5:Int)):Rat)) k)%12)+1)%12+1)),(22,.agg #[iv (moD (aA (((fiE y m-5:Int)):Rat)) k),iv (aw (moD (aA (((fiE y m-5:Int)):Rat)) k)),iv (smV (moD (aA (((fiE y m-5:Int)):Rat)) k)%12),iv (smV (aw (moD (aA (((fiE y m-5:Int)):Rat)) k))%12)]),(8,.pointer (some ⟨g8,0,none⟩)),(21,.agg #[iv (moD (aA (((fiE y m-5:Int)):Rat)) k),iv (aw (moD (aA (((fiE y m-5:Int)):Rat)) k)),iv (smV (moD (aA (((fiE y m-5:Int)):Rat)) k)%12),iv (smV (aw (moD (aA (((fiE y m-5:Int)):Rat)) k))%12)]),(20,.pointer (some ⟨gr,4*k,none⟩)),(19,.bool true),(17,iv ((3:Nat):Int)),(16,.slice (some ⟨gr,0,none⟩) 3 cap),(4,.slice none 0 0),(0,iv y),(1,iv m)]) hF (aD hF.o) rfl rfl rfl rfl fun a hF=>?_
     refine E.nil0<|E.norm ?_
     have hb:fiB y m (moD (aA (((fiE y m-5:Int)):Rat)) k)=true:=(BM hm0 hm1 hc17.2).2 ⟨hc17.1,by have:=hc16;omega⟩
     have hlen:(fiU y m (aA (((fiE y m-5:Int)):Rat)) (k+1)).length =((fiU y m (aA (((fiE y m-5:Int)):Rat)) k).length +1):=(by rw[Bp hb,List.length_append];rfl)
     exact⟨(3-(k+1)),by omega,⟨(k+1),la21,lc22,(by omega),(by rw[hlen];exact hnvr),(by rw[hlen,show(((k+1:Nat)):Int)=((k:Nat):Int)+1 from by omega];exact Fr.sub (L':=[(18,iv (((k:Nat):Int)+1)),(17,iv ((3:Nat):Int)),(16,.slice (some ⟨gr,0,none⟩) 3 cap),(6,.slice la21 ((fiU y m (aA (((fiE y m-5:Int)):Rat)) k).length +1) lc22),(4,.slice none 0 0),(0,iv y),(1,iv m)]) hF (by intro p hp;simp only [List.mem_cons,List.not_mem_nil,or_false] at hp ⊢;rcases hp with rfl|rfl|rfl|rfl|rfl|rfl|rfl <;> simp)),bel,(by rw[hlen];exact hib.castM rfl (by rw[Bp hb,tO];rfl)),orow,rfl⟩⟩
    ·refine E.callg hF (rk Kk (aL hF.p hF.o)) (wZ (moD (aA (((fiE y m-5:Int)):Rat)) k) (aw (moD (aA (((fiE y m-5:Int)):Rat)) k)) (smV (moD (aA (((fiE y m-5:Int)):Rat)) k)%12) (smV (aw (moD (aA (((fiE y m-5:Int)):Rat)) k))%12) y _ hy0 hy1 (by omega) (by omega) (by rw[hc16];exact hc17)) (au rfl rfl hF.q rfl) rfl rfl rfl ?_
     rintro e w24 ⟨rfl,bb⟩
     refine⟨_,rfl,?_⟩
     intro a hF
     replace hia:=hia.below bb
     replace orow:=orow.below bb
     replace o8:=o8.below bb
     replace bel:=aF bel bb
     clear bb
     refine oV hF (aK (hF.at 3 rfl) hF.o) rfl fun a hF=>E.nil<|wp_cond_false hF.o<|wp_skip<|E.blk<|E.norm<|E.seq<|oV hF (aq (hF.at 13 rfl) ao aa (aX (by omega) (by omega))) rfl fun a hF=>?_
     refine E.opset (L':=[(18,iv (((k:Nat):Int)+1)),(35,iv (((k:Nat):Int)+1)),(30,.bool false),(29,.bool false),(28,iv y),(27,.agg #[iv (moD (aA (((fiE y m-5:Int)):Rat)) k),iv (aw (moD (aA (((fiE y m-5:Int)):Rat)) k)),iv (smV (moD (aA (((fiE y m-5:Int)):Rat)) k)%12),iv (smV (aw (moD (aA (((fiE y m-5:Int)):Rat)) k))%12)]),(26,.bool true),(25,.bool true),(24,iv m),(23,iv (((smV (moD (aA (((fiE y m-5:Int)):Rat)) k)%12)+1)%12+1)),(22,.agg #[iv (moD (aA (((fiE y m-5:Int)):Rat)) k),iv (aw (moD (aA (((fiE y m-5:Int)):Rat)) k)),iv (smV (moD (aA (((fiE y m-5:Int)):Rat)) k)%12),iv (smV (aw (moD (aA (((fiE y m-5:Int)):Rat)) k))%12)]),(8,.pointer (some ⟨g8,0,none⟩)),(21,.agg #[iv (moD (aA (((fiE y m-5:Int)):Rat)) k),iv (aw (moD (aA (((fiE y m-5:Int)):Rat)) k)),iv (smV (moD (aA (((fiE y m-5:Int)):Rat)) k)%12),iv (smV (aw (moD (aA (((fiE y m-5:Int)):Rat)) k))%12)]),(20,.pointer (some ⟨gr,4*k,none⟩)),(19,.bool true),(17,iv ((3:Nat):Int)),(16,.slice (some ⟨gr,0,none⟩) 3 cap),(6,.slice la (fiU y m (aA (((fiE y m-5:Int)):Rat)) k).length lc),(4,.slice none 0 0),(0,iv y),(1,iv m)]) hF (aD hF.o) rfl rfl rfl rfl fun a hF=>?_
     refine E.nil0<|E.norm ?_
     have hb:¬fiB y m (moD (aA (((fiE y m-5:Int)):Rat)) k)=true:=fun e=>hc17 (by have:=fw (of_decide_eq_true (p:=smV (moD (aA (((fiE y m-5:Int)):Rat)) k)=fiS y m) e);omega)
     have hlen:(fiU y m (aA (((fiE y m-5:Int)):Rat)) (k+1)).length =(fiU y m (aA (((fiE y m-5:Int)):Rat)) k).length :=(by rw[vd hb])
     exact⟨(3-(k+1)),by omega,⟨(k+1),la,lc,(by omega),(by rw[hlen];exact hnvr),(by rw[hlen,show(((k+1:Nat)):Int)=((k:Nat):Int)+1 from by omega];exact Fr.sub (L':=[(18,iv (((k:Nat):Int)+1)),(17,iv ((3:Nat):Int)),(16,.slice (some ⟨gr,0,none⟩) 3 cap),(6,.slice la (fiU y m (aA (((fiE y m-5:Int)):Rat)) k).length lc),(4,.slice none 0 0),(0,iv y),(1,iv m)]) hF (by intro p hp;simp only [List.mem_cons,List.not_mem_nil,or_false] at hp ⊢;rcases hp with rfl|rfl|rfl|rfl|rfl|rfl|rfl <;> simp)),bel,(by rw[hlen];exact hia.castM rfl (by rw[vd hb])),orow,rfl⟩⟩
   ·refine oU hF 1 0 (aV (c:=false) (aJ (hc16))) rfl rfl rfl fun a hF=>oM hF 0 rfl rfl fun a hF=>nu hF 0 rfl rfl rfl fun a hF=>nu hF 1 rfl rfl rfl fun a hF=>nu hF 2 rfl rfl rfl fun a hF=>oV hF (aQ (hF.at 3 rfl) ao) rfl fun a hF=>E.nil<|wp_cond_false hF.o<|wp_skip<|E.blk<|E.norm<|E.seq<|oV hF (aq (hF.at 13 rfl) ao aa (aX (by omega) (by omega))) rfl fun a hF=>?_
    refine E.opset (L':=[(18,iv (((k:Nat):Int)+1)),(35,iv (((k:Nat):Int)+1)),(30,.bool false),(29,undef),(28,undef),(27,undef),(26,.bool false),(25,.bool false),(24,iv m),(23,iv (((smV (moD (aA (((fiE y m-5:Int)):Rat)) k)%12)+1)%12+1)),(22,.agg #[iv (moD (aA (((fiE y m-5:Int)):Rat)) k),iv (aw (moD (aA (((fiE y m-5:Int)):Rat)) k)),iv (smV (moD (aA (((fiE y m-5:Int)):Rat)) k)%12),iv (smV (aw (moD (aA (((fiE y m-5:Int)):Rat)) k))%12)]),(8,.pointer (some ⟨g8,0,none⟩)),(21,.agg #[iv (moD (aA (((fiE y m-5:Int)):Rat)) k),iv (aw (moD (aA (((fiE y m-5:Int)):Rat)) k)),iv (smV (moD (aA (((fiE y m-5:Int)):Rat)) k)%12),iv (smV (aw (moD (aA (((fiE y m-5:Int)):Rat)) k))%12)]),(20,.pointer (some ⟨gr,4*k,none⟩)),(19,.bool true),(17,iv ((3:Nat):Int)),(16,.slice (some ⟨gr,0,none⟩) 3 cap),(6,.slice la (fiU y m (aA (((fiE y m-5:Int)):Rat)) k).length lc),(4,.slice none 0 0),(0,iv y),(1,iv m)]) hF (aD hF.o) rfl rfl rfl rfl fun a hF=>?_
    refine E.nil0<|E.norm ?_
    have hb:¬fiB y m (moD (aA (((fiE y m-5:Int)):Rat)) k)=true:=fun e=>hc16 (by have:=((DH (s:=smV (moD (aA (((fiE y m-5:Int)):Rat)) k)) (y:=y) hm0 hm1).1 (of_decide_eq_true (p:=smV (moD (aA (((fiE y m-5:Int)):Rat)) k)=fiS y m) e)).2;omega)
    have hlen:(fiU y m (aA (((fiE y m-5:Int)):Rat)) (k+1)).length =(fiU y m (aA (((fiE y m-5:Int)):Rat)) k).length :=(by rw[vd hb])
    exact⟨(3-(k+1)),by omega,⟨(k+1),la,lc,(by omega),(by rw[hlen];exact hnvr),(by rw[hlen,show(((k+1:Nat)):Int)=((k:Nat):Int)+1 from by omega];exact Fr.sub (L':=[(18,iv (((k:Nat):Int)+1)),(17,iv ((3:Nat):Int)),(16,.slice (some ⟨gr,0,none⟩) 3 cap),(6,.slice la (fiU y m (aA (((fiE y m-5:Int)):Rat)) k).length lc),(4,.slice none 0 0),(0,iv y),(1,iv m)]) hF (by intro p hp;simp only [List.mem_cons,List.not_mem_nil,or_false] at hp ⊢;rcases hp with rfl|rfl|rfl|rfl|rfl|rfl|rfl <;> simp)),bel,(by rw[hlen];exact hia.castM rfl (by rw[vd hb])),orow,rfl⟩⟩
  ·refine wp_seq<|E.seq ?_
   refine oU hF 0 1 (aY (c:=false) (aJ (by omega))) rfl rfl rfl fun a hF=>ns<|wp_cond_false hF.o<|wp_exit<|E.past<|E.past<|E.out (id:=0)<|E.norm<|wq<|oM hF 4 rfl rfl fun a hF=>?_
   refine E.opset (L':=[(4,.slice la (fiU y m (aA (((fiE y m-5:Int)):Rat)) k).length lc),(36,.slice la (fiU y m (aA (((fiE y m-5:Int)):Rat)) k).length lc),(19,.bool false),(18,iv ((k:Nat):Int)),(17,iv ((3:Nat):Int)),(16,.slice (some ⟨gr,0,none⟩) 3 cap),(6,.slice la (fiU y m (aA (((fiE y m-5:Int)):Rat)) k).length lc),(0,iv y),(1,iv m)]) hF (aZ hF.o) rfl rfl rfl rfl fun a hF=>?_
   refine nr<|rt Tryz.results113 hF 0 rfl ?_
   obtain rfl:k=3:=by omega
   exact⟨_,_,rfl,hia,bel⟩
end Go.Proofs.YtgdpkknapcgcbaaGreatDoor
