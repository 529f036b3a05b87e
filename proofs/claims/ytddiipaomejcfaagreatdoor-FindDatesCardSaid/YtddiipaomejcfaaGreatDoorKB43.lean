import Derived.Test.YtddiipaomejcfaaGreatDoorKB41
import Derived.Test.YtddiipaomejcfaaGreatDoorKB42
namespace Go.Proofs.YtddiipaomejcfaaGreatDoor
open Go.RowKit
set_option maxRecDepth 100000
set_option linter.unusedVariables false
set_option maxHeartbeats 8000000
theorem findDates_walk (y m:Int) (l:Bool) (x:Int) (u:Bool) (wa wb wc wd:Int) (w:World) (hT:bn w):
 CV 4 #[.agg #[iv y,iv m,.bool l,iv x,.bool u],.agg #[iv wa,iv wb,iv wc,iv wd]] w (.bool true):=by
 obtain⟨pa,hpa⟩:∃z:Int,gA 60 120 wa wb=z:=⟨_,rfl⟩
 obtain⟨pb,hpb⟩:∃z:Int,gB wb=z:=⟨_,rfl⟩
 obtain⟨pc,hpc⟩:∃z:Int,gA 180 360 wc wd=z:=⟨_,rfl⟩
 obtain⟨pd,hpd⟩:∃z:Int,gB wd=z:=⟨_,rfl⟩
 have hok:cr pa pb pc pd:=by rw[<-hpa,<-hpb,<-hpc,<-hpd];exact sA wa wb wc wd
 by_cases hA:1<=m/\m<=12/\1<=x/\x<=30
 ·by_cases hY: -9000<=y/\y<=9000
  ·have hp1:=hok.b0
   have hp2:=hok.b1
   have hp3:=hok.a0
   have hp4:=hok.a1
   have hp5:=hok.d0
   have hp6:=hok.d1
   have hp7:=hok.c0
   have hp8:=hok.c1
   have hma:dU y m x pa pb pc pd=0:=GR (rP hok) (by omega) (by omega)
   refine gs2 (nt:=96) Tryz.func4 rfl rfl rfl fun a st hF=>wq<|bx st hF 0 rfl rfl fun g2 w1 a st hF=>bx st hF 2 rfl rfl fun g3 w2 a st hF=>?_
   refine oC hF rfl fun a hF=>ns<|wq<|cX st hF (rgc k13 hZ) (ic _ (hT.below st.bel)) rfl fun w3 a st hF=>oV hF (dF hF.o (cA _ false rfl)) rfl fun a hF=>E.nil<|wp_cond_false hF.o<|wp_skip<|E.norm<|wq<|oL hF st 3 0 rJ rfl rfl rfl rfl fun a hF=>?_
   refine cX st hF (rgc k15 (aD hF.o)) (m8 _ hpa hpb hpc hpd) rfl fun w4 a st hF=>S.new st hF 0 rfl bi rfl rfl rfl rfl rfl fun g5 w5 a st hF=>nq<|oL hF st 7 2 bw rfl rfl rfl rfl fun a hF=>oL hF st 1 0 bi rfl rfl rfl rfl fun a hF=>cX st hF (rgc k17 (aF hF.p hF.o)) (DB y m l x u pa pb pc pd _ (hT.below st.bel) (by first|assumption|constructor<;>omega) (by omega) (by omega) (by omega) (by omega) (by omega) (by omega)) rfl fun w6 a st hF=>?_
   refine oM hF 0 rfl rfl fun a hF=>oV hF (aM (v:= iv (fdN pa pb pc pd y m l x u)) hF.o rfl) rfl fun a hF=>oV hF (aM (v:= iv (fdE pa pb pc pd y m l x u)) hF.p rfl) rfl fun a hF=>oA hF 1 rfl rfl fun a hF=>oA hF 1 rfl rfl fun a hF=>ns<|wp_block<|wq<|oV hF (az (hF.at 15 rfl) (eQ (p:=1) rfl)) rfl fun a hF=>oV hF (av hF.o (aP (v:= iv m) (st.bk 2 rfl) rfl)) rfl fun a hF=>oT hF 0 (a9 (c:=false) (aL (by omega))) rfl rfl fun a hF=>oM hF 0 rfl rfl fun a hF=>og hF (az (hF.at 19 rfl) (eQ (p:=1) rfl)) 0 rfl rfl rfl fun a hF=>og hF (av hF.o (aP (v:= iv m) (st.bk 2 rfl) rfl)) 1 rfl rfl rfl fun a hF=>og hF (aq hF.o ao aa (aI (bN (c:=false) (aL (by omega))) (by simp))) 2 rfl rfl rfl fun a hF=>?_
   refine oV hF (aJ (hF.at 3 rfl) hF.o) rfl fun a hF=>oM hF 0 rfl rfl fun a hF=>og hF (az (hF.at 24 rfl) (eo (p:=3) rfl)) 0 rfl rfl rfl fun a hF=>og hF (av hF.o (aP (v:= iv x) (st.bk 2 rfl) rfl)) 1 rfl rfl rfl fun a hF=>og hF (aq hF.o ao aa (aI (a9 (c:=false) (aL (by omega))) (by simp))) 2 rfl rfl rfl fun a hF=>oV hF (aJ (hF.at 3 rfl) hF.o) rfl fun a hF=>oM hF 0 rfl rfl fun a hF=>og hF (az (hF.at 29 rfl) (eo (p:=3) rfl)) 0 rfl rfl rfl fun a hF=>og hF (av hF.o (aP (v:= iv x) (st.bk 2 rfl) rfl)) 1 rfl rfl rfl fun a hF=>og hF (aq hF.o ao aa (aI (bN (c:=false) (aL (by omega))) (by simp))) 2 rfl rfl rfl fun a hF=>oV hF (aJ (hF.at 3 rfl) hF.o) rfl fun a hF=>oA hF 0 rfl rfl fun a hF=>?_
   refine E.nil<|wp_cond_false hF.o<|wq<|oV hF (az (hF.at 34 rfl) (gF (p:=0) rfl)) rfl fun a hF=>oV hF (av hF.o (bD (v:= iv y) (st.bk 2 rfl) rfl)) rfl fun a hF=>oT hF 0 (a9 (c:=false) (aL (by omega))) rfl rfl fun a hF=>oM hF 0 rfl rfl fun a hF=>og hF (az (hF.at 38 rfl) (gF (p:=0) rfl)) 0 rfl rfl rfl fun a hF=>og hF (av hF.o (bD (v:= iv y) (st.bk 2 rfl) rfl)) 1 rfl rfl rfl fun a hF=>og hF (aq hF.o ao aa (aI (bN (c:=false) (aL (by omega))) (by simp))) 2 rfl rfl rfl fun a hF=>oV hF (aJ (hF.at 3 rfl) hF.o) rfl fun a hF=>oA hF 0 rfl rfl fun a hF=>?_
   refine E.nil<|wp_cond_false hF.o<|wp_skip<|E.blk<|E.norm<|wp_seq ?_
   refine E.rg 10 aG hF [75,76,77,78,79,74,80,81,8,9] [_,_,_,.of (fun w v=>RPl w v (((pa:Int):Rat)/((pb:Int):Rat)) (((pc:Int):Rat)/((pd:Int):Rat)) 2) (fun _ _ _ h hb=>h.below hb),_,.ex (.tuple #[iv (fdN pa pb pc pd y m l x u),iv (fdE pa pb pc pd y m l x u)]),.ex (iv (fdN pa pb pc pd y m l x u)),.ex (iv (fdE pa pb pc pd y m l x u)),.ex (iv (fdN pa pb pc pd y m l x u)),.ex (iv (fdE pa pb pc pd y m l x u))] (by decide+kernel) rfl rfl rfl ⟨rb st bw 43 2 rfl,ck st k20 rfl fun _ s=>a7 (sr y m l x u _),rb st bi 36 0 rfl,ck st k21 rfl fun _ s=>fi (rL pa pb pc pd _ (by omega) (by omega) (by omega) (by omega) (by omega) (by omega) (by omega) (by omega)),ck st k19 rfl fun _ s _ x78=>a7 (vE y m l x u pa pb pc pd _ _ x78 (by first|assumption|constructor<;>omega) (by omega) (by omega) (by omega) (by omega) (by omega) (by omega)),(by intro a' w' hF' hb hd;have e79:=tE hd 0 rfl;exact dv0 (aB e79) rfl rfl rfl),(by intro a' w' hF' hb hd;have e74:=tE hd 0 rfl;exact dv0 (aM (v:= iv (fdN pa pb pc pd y m l x u)) e74 rfl) rfl rfl rfl),(by intro a' w' hF' hb hd;have e74:=tE hd 0 rfl;exact dv0 (aM (v:= iv (fdE pa pb pc pd y m l x u)) e74 rfl) rfl rfl rfl),(by intro a' w' hF' hb hd;have e80:=tE hd 0 rfl;exact dv0 (aZ e80) rfl rfl rfl),(by intro a' w' hF' hb hd;have e81:=tE hd 0 rfl;exact dv0 (aZ e81) rfl rfl rfl),trivial⟩ ?_
   intro a w7 hF bb hall
   replace st:=st.to bb
   replace hF:=rE hall hF 8 rfl rfl
   replace hF:=rE hall hF 9 rfl rfl
   clear hall bb
   refine nq<|oM hF 30 rfl rfl fun a hF=>oM hF 1 rfl rfl fun a hF=>oU hF 1 0 (aQ (c:=true) (by simp)) rfl rfl rfl fun a hF=>oM hF 0 rfl rfl fun a hF=>og hF (aB (hF.at 35 rfl)) 0 rfl rfl rfl fun a hF=>og hF (aB (hF.at 6 rfl)) 1 rfl rfl rfl fun a hF=>og hF (aq hF.p hF.o aa (aI (aQ (c:=true) (by simp)) (by simp))) 2 rfl rfl rfl fun a hF=>oV hF (aH (hF.at 3 rfl) hF.o) rfl fun a hF=>oM hF 0 rfl rfl fun a hF=>og hF (av (hF.at 54 rfl) (aX bw (st.bk 2 rfl) rfl)) 0 rfl rfl rfl fun a hF=>og hF (av (hF.at 48 rfl) (aX bi (st.bk 0 rfl) rfl)) 1 rfl rfl rfl fun a hF=>?_
   refine S.callxg st hF (ag rfl rfl hF.q rfl) (rgc k18 (aF hF.p hF.o)) (eL y m l x u pa pb pc pd _) rfl rfl rfl fun w8 a st hF=>?_
   refine og hF (aq hF.o ao aa (aI (aQ (c:=true) (aK (by omega))) (by simp))) 3 rfl rfl rfl fun a hF=>oV hF (aH (hF.at 4 rfl) hF.o) rfl fun a hF=>oE hF 0 rfl rfl fun a hF=>nr ?_
   have bel:=st.bel
   refine rt Tryz.results4 hF 0 rfl ?_
   exact⟨rfl,bel⟩
  ·have hma:dU y m x pa pb pc pd=2:=Nl (rP hok) (by omega) (by omega)
   refine gs2 (nt:=96) Tryz.func4 rfl rfl rfl fun a st hF=>wq<|bx st hF 0 rfl rfl fun g2 w1 a st hF=>bx st hF 2 rfl rfl fun g3 w2 a st hF=>?_
   refine oC hF rfl fun a hF=>ns<|wq<|cX st hF (rgc k13 hZ) (ic _ (hT.below st.bel)) rfl fun w3 a st hF=>oV hF (dF hF.o (cA _ false rfl)) rfl fun a hF=>E.nil<|wp_cond_false hF.o<|wp_skip<|E.norm<|wq<|oL hF st 3 0 rJ rfl rfl rfl rfl fun a hF=>?_
   refine cX st hF (rgc k15 (aD hF.o)) (m8 _ hpa hpb hpc hpd) rfl fun w4 a st hF=>S.new st hF 0 rfl bi rfl rfl rfl rfl rfl fun g5 w5 a st hF=>nq<|oL hF st 7 2 bw rfl rfl rfl rfl fun a hF=>oL hF st 1 0 bi rfl rfl rfl rfl fun a hF=>cX st hF (rgc k17 (aF hF.p hF.o)) (nj y m l x u pa pb pc pd _ (by omega)) rfl fun w6 a st hF=>?_
   refine oM hF 0 rfl rfl fun a hF=>oV hF (aM (v:= iv 0) hF.o rfl) rfl fun a hF=>oV hF (aM (v:= iv (dU y m x pa pb pc pd)) hF.p rfl) rfl fun a hF=>oA hF 1 rfl rfl fun a hF=>oA hF 1 rfl rfl fun a hF=>ns<|wp_block<|wq<|oV hF (az (hF.at 15 rfl) (eQ (p:=1) rfl)) rfl fun a hF=>oV hF (av hF.o (aP (v:= iv m) (st.bk 2 rfl) rfl)) rfl fun a hF=>oT hF 0 (a9 (c:=false) (aL (by omega))) rfl rfl fun a hF=>oM hF 0 rfl rfl fun a hF=>og hF (az (hF.at 19 rfl) (eQ (p:=1) rfl)) 0 rfl rfl rfl fun a hF=>og hF (av hF.o (aP (v:= iv m) (st.bk 2 rfl) rfl)) 1 rfl rfl rfl fun a hF=>og hF (aq hF.o ao aa (aI (bN (c:=false) (aL (by omega))) (by simp))) 2 rfl rfl rfl fun a hF=>?_
   refine oV hF (aJ (hF.at 3 rfl) hF.o) rfl fun a hF=>oM hF 0 rfl rfl fun a hF=>og hF (az (hF.at 24 rfl) (eo (p:=3) rfl)) 0 rfl rfl rfl fun a hF=>og hF (av hF.o (aP (v:= iv x) (st.bk 2 rfl) rfl)) 1 rfl rfl rfl fun a hF=>og hF (aq hF.o ao aa (aI (a9 (c:=false) (aL (by omega))) (by simp))) 2 rfl rfl rfl fun a hF=>oV hF (aJ (hF.at 3 rfl) hF.o) rfl fun a hF=>oM hF 0 rfl rfl fun a hF=>og hF (az (hF.at 29 rfl) (eo (p:=3) rfl)) 0 rfl rfl rfl fun a hF=>og hF (av hF.o (aP (v:= iv x) (st.bk 2 rfl) rfl)) 1 rfl rfl rfl fun a hF=>og hF (aq hF.o ao aa (aI (bN (c:=false) (aL (by omega))) (by simp))) 2 rfl rfl rfl fun a hF=>oV hF (aJ (hF.at 3 rfl) hF.o) rfl fun a hF=>oA hF 0 rfl rfl fun a hF=>?_
   refine E.nil<|wp_cond_false hF.o<|wq<|oV hF (az (hF.at 34 rfl) (gF (p:=0) rfl)) rfl fun a hF=>oV hF (av hF.o (bD (v:= iv y) (st.bk 2 rfl) rfl)) rfl fun a hF=>?_
   by_cases hc7:y<(-9000)
   ·refine oT hF 0 (a9 (c:=true) (aK hc7)) rfl rfl fun a hF=>oM hF 0 rfl rfl fun a hF=>nu hF 0 rfl rfl rfl fun a hF=>nu hF 1 rfl rfl rfl fun a hF=>nu hF 2 rfl rfl rfl fun a hF=>oV hF (aH (hF.at 3 rfl) ao) rfl fun a hF=>oA hF 0 rfl rfl fun a hF=>E.nil<|wp_cond_true hF.o<|wq<|oM hF 28 rfl rfl fun a hF=>oT hF 0 (aQ (c:=true) (aK (by omega))) rfl rfl fun a hF=>oM hF 0 rfl rfl fun a hF=>og hF (aB (hF.at 32 rfl)) 0 rfl rfl rfl fun a hF=>og hF (aq hF.o ao aa (aI (aQ (c:=true) (by decide)) (by simp))) 1 rfl rfl rfl fun a hF=>oV hF (aH hF.q hF.o) rfl fun a hF=>oM hF 0 rfl rfl fun a hF=>?_
    refine og hF (av (hF.at 50 rfl) (aX bw (st.bk 2 rfl) rfl)) 0 rfl rfl rfl fun a hF=>og hF (av (hF.at 44 rfl) (aX bi (st.bk 0 rfl) rfl)) 1 rfl rfl rfl fun a hF=>?_
    refine S.callxg st hF (ag rfl rfl hF.q rfl) (rgc k18 (aF hF.p hF.o)) (eL y m l x u pa pb pc pd _) rfl rfl rfl fun w8 a st hF=>?_
    refine og hF (aB (hF.at 38 rfl)) 3 rfl rfl rfl fun a hF=>og hF (aq hF.p hF.o aa (aI (aQ (c:=true) (by simp)) (by simp))) 4 rfl rfl rfl fun a hF=>oV hF (aH (hF.at 5 rfl) hF.o) rfl fun a hF=>oE hF 0 rfl rfl fun a hF=>nr ?_
    have bel:=st.bel
    refine rt Tryz.results4 hF 0 rfl ?_
    exact⟨rfl,bel⟩
   ·refine oT hF 0 (a9 (c:=false) (aL hc7)) rfl rfl fun a hF=>oM hF 0 rfl rfl fun a hF=>og hF (az (hF.at 38 rfl) (gF (p:=0) rfl)) 0 rfl rfl rfl fun a hF=>og hF (av hF.o (bD (v:= iv y) (st.bk 2 rfl) rfl)) 1 rfl rfl rfl fun a hF=>?_
    by_cases hc9:9000<y
    ·refine og hF (aq hF.o ao aa (aI (bN (c:=true) (aK hc9)) (by simp))) 2 rfl rfl rfl fun a hF=>oV hF (aJ (hF.at 3 rfl) hF.o) rfl fun a hF=>oA hF 0 rfl rfl fun a hF=>E.nil<|wp_cond_true hF.o<|wq<|oM hF 28 rfl rfl fun a hF=>oT hF 0 (aQ (c:=true) (aK (by omega))) rfl rfl fun a hF=>oM hF 0 rfl rfl fun a hF=>og hF (aB (hF.at 32 rfl)) 0 rfl rfl rfl fun a hF=>og hF (aq hF.o ao aa (aI (aQ (c:=true) (by decide)) (by simp))) 1 rfl rfl rfl fun a hF=>oV hF (aH hF.q hF.o) rfl fun a hF=>oM hF 0 rfl rfl fun a hF=>?_
     refine og hF (av (hF.at 50 rfl) (aX bw (st.bk 2 rfl) rfl)) 0 rfl rfl rfl fun a hF=>og hF (av (hF.at 44 rfl) (aX bi (st.bk 0 rfl) rfl)) 1 rfl rfl rfl fun a hF=>?_
     refine S.callxg st hF (ag rfl rfl hF.q rfl) (rgc k18 (aF hF.p hF.o)) (eL y m l x u pa pb pc pd _) rfl rfl rfl fun w10 a st hF=>?_
     refine og hF (aB (hF.at 38 rfl)) 3 rfl rfl rfl fun a hF=>og hF (aq hF.p hF.o aa (aI (aQ (c:=true) (by simp)) (by simp))) 4 rfl rfl rfl fun a hF=>oV hF (aH (hF.at 5 rfl) hF.o) rfl fun a hF=>oE hF 0 rfl rfl fun a hF=>nr ?_
     have bel:=st.bel
     refine rt Tryz.results4 hF 0 rfl ?_
     exact⟨rfl,bel⟩
    ·exfalso;omega
 ·have hma:dU y m x pa pb pc pd=4:=MN (rP hok) (by omega)
  refine gs2 (nt:=96) Tryz.func4 rfl rfl rfl fun a st hF=>wq<|bx st hF 0 rfl rfl fun g2 w1 a st hF=>bx st hF 2 rfl rfl fun g3 w2 a st hF=>?_
  refine oC hF rfl fun a hF=>ns<|wq<|cX st hF (rgc k13 hZ) (ic _ (hT.below st.bel)) rfl fun w3 a st hF=>oV hF (dF hF.o (cA _ false rfl)) rfl fun a hF=>E.nil<|wp_cond_false hF.o<|wp_skip<|E.norm<|wq<|oL hF st 3 0 rJ rfl rfl rfl rfl fun a hF=>?_
  refine cX st hF (rgc k15 (aD hF.o)) (m8 _ hpa hpb hpc hpd) rfl fun w4 a st hF=>S.new st hF 0 rfl bi rfl rfl rfl rfl rfl fun g5 w5 a st hF=>nq<|oL hF st 7 2 bw rfl rfl rfl rfl fun a hF=>oL hF st 1 0 bi rfl rfl rfl rfl fun a hF=>cX st hF (rgc k17 (aF hF.p hF.o)) (nj y m l x u pa pb pc pd _ (by omega)) rfl fun w6 a st hF=>?_
  refine oM hF 0 rfl rfl fun a hF=>oV hF (aM (v:= iv 0) hF.o rfl) rfl fun a hF=>oV hF (aM (v:= iv (dU y m x pa pb pc pd)) hF.p rfl) rfl fun a hF=>oA hF 1 rfl rfl fun a hF=>oA hF 1 rfl rfl fun a hF=>ns<|wp_block<|wq<|oV hF (az (hF.at 15 rfl) (eQ (p:=1) rfl)) rfl fun a hF=>oV hF (av hF.o (aP (v:= iv m) (st.bk 2 rfl) rfl)) rfl fun a hF=>?_
  by_cases hc7:m<1
  ·refine oT hF 0 (a9 (c:=true) (aK hc7)) rfl rfl fun a hF=>oM hF 0 rfl rfl fun a hF=>nu hF 0 rfl rfl rfl fun a hF=>nu hF 1 rfl rfl rfl fun a hF=>nu hF 2 rfl rfl rfl fun a hF=>oV hF (aH (hF.at 3 rfl) ao) rfl fun a hF=>oM hF 0 rfl rfl fun a hF=>nu hF 0 rfl rfl rfl fun a hF=>nu hF 1 rfl rfl rfl fun a hF=>nu hF 2 rfl rfl rfl fun a hF=>oV hF (aH (hF.at 3 rfl) ao) rfl fun a hF=>oM hF 0 rfl rfl fun a hF=>nu hF 0 rfl rfl rfl fun a hF=>nu hF 1 rfl rfl rfl fun a hF=>?_
   refine nu hF 2 rfl rfl rfl fun a hF=>oV hF (aH (hF.at 3 rfl) ao) rfl fun a hF=>oA hF 0 rfl rfl fun a hF=>E.nil<|wp_cond_true hF.o<|wq<|oM hF 19 rfl rfl fun a hF=>oT hF 0 (aQ (c:=true) (aK (by omega))) rfl rfl fun a hF=>oM hF 0 rfl rfl fun a hF=>og hF (aB (hF.at 23 rfl)) 0 rfl rfl rfl fun a hF=>og hF (aq hF.o ao aa (aI (aQ (c:=true) (by decide)) (by simp))) 1 rfl rfl rfl fun a hF=>oV hF (aH hF.q hF.o) rfl fun a hF=>oM hF 0 rfl rfl fun a hF=>?_
   refine og hF (av (hF.at 41 rfl) (aX bw (st.bk 2 rfl) rfl)) 0 rfl rfl rfl fun a hF=>og hF (av (hF.at 35 rfl) (aX bi (st.bk 0 rfl) rfl)) 1 rfl rfl rfl fun a hF=>?_
   refine S.callxg st hF (ag rfl rfl hF.q rfl) (rgc k18 (aF hF.p hF.o)) (eL y m l x u pa pb pc pd _) rfl rfl rfl fun w8 a st hF=>?_
   refine og hF (aB (hF.at 29 rfl)) 3 rfl rfl rfl fun a hF=>og hF (aq hF.p hF.o aa (aI (aQ (c:=true) (by simp)) (by simp))) 4 rfl rfl rfl fun a hF=>oV hF (aH (hF.at 5 rfl) hF.o) rfl fun a hF=>oE hF 0 rfl rfl fun a hF=>nr ?_
   have bel:=st.bel
   refine rt Tryz.results4 hF 0 rfl ?_
   exact⟨rfl,bel⟩
  ·refine oT hF 0 (a9 (c:=false) (aL hc7)) rfl rfl fun a hF=>oM hF 0 rfl rfl fun a hF=>og hF (az (hF.at 19 rfl) (eQ (p:=1) rfl)) 0 rfl rfl rfl fun a hF=>og hF (av hF.o (aP (v:= iv m) (st.bk 2 rfl) rfl)) 1 rfl rfl rfl fun a hF=>?_
   by_cases hc9:12<m
   ·refine og hF (aq hF.o ao aa (aI (bN (c:=true) (aK hc9)) (by simp))) 2 rfl rfl rfl fun a hF=>oV hF (aJ (hF.at 3 rfl) hF.o) rfl fun a hF=>oM hF 0 rfl rfl fun a hF=>nu hF 0 rfl rfl rfl fun a hF=>nu hF 1 rfl rfl rfl fun a hF=>nu hF 2 rfl rfl rfl fun a hF=>oV hF (aH (hF.at 3 rfl) ao) rfl fun a hF=>oM hF 0 rfl rfl fun a hF=>nu hF 0 rfl rfl rfl fun a hF=>nu hF 1 rfl rfl rfl fun a hF=>nu hF 2 rfl rfl rfl fun a hF=>oV hF (aH (hF.at 3 rfl) ao) rfl fun a hF=>oA hF 0 rfl rfl fun a hF=>?_
    refine E.nil<|wp_cond_true hF.o<|wq<|oM hF 19 rfl rfl fun a hF=>oT hF 0 (aQ (c:=true) (aK (by omega))) rfl rfl fun a hF=>oM hF 0 rfl rfl fun a hF=>og hF (aB (hF.at 23 rfl)) 0 rfl rfl rfl fun a hF=>og hF (aq hF.o ao aa (aI (aQ (c:=true) (by decide)) (by simp))) 1 rfl rfl rfl fun a hF=>oV hF (aH hF.q hF.o) rfl fun a hF=>oM hF 0 rfl rfl fun a hF=>og hF (av (hF.at 41 rfl) (aX bw (st.bk 2 rfl) rfl)) 0 rfl rfl rfl fun a hF=>og hF (av (hF.at 35 rfl) (aX bi (st.bk 0 rfl) rfl)) 1 rfl rfl rfl fun a hF=>?_
    refine S.callxg st hF (ag rfl rfl hF.q rfl) (rgc k18 (aF hF.p hF.o)) (eL y m l x u pa pb pc pd _) rfl rfl rfl fun w10 a st hF=>?_
    refine og hF (aB (hF.at 29 rfl)) 3 rfl rfl rfl fun a hF=>og hF (aq hF.p hF.o aa (aI (aQ (c:=true) (by simp)) (by simp))) 4 rfl rfl rfl fun a hF=>oV hF (aH (hF.at 5 rfl) hF.o) rfl fun a hF=>oE hF 0 rfl rfl fun a hF=>nr ?_
    have bel:=st.bel
    refine rt Tryz.results4 hF 0 rfl ?_
    exact⟨rfl,bel⟩
   ·refine og hF (aq hF.o ao aa (aI (bN (c:=false) (aL hc9)) (by simp))) 2 rfl rfl rfl fun a hF=>oV hF (aJ (hF.at 3 rfl) hF.o) rfl fun a hF=>oM hF 0 rfl rfl fun a hF=>og hF (az (hF.at 24 rfl) (eo (p:=3) rfl)) 0 rfl rfl rfl fun a hF=>og hF (av hF.o (aP (v:= iv x) (st.bk 2 rfl) rfl)) 1 rfl rfl rfl fun a hF=>?_
    by_cases hc11:x<1
    ·refine og hF (aq hF.o ao aa (aI (a9 (c:=true) (aK hc11)) (by simp))) 2 rfl rfl rfl fun a hF=>oV hF (aJ (hF.at 3 rfl) hF.o) rfl fun a hF=>oM hF 0 rfl rfl fun a hF=>nu hF 0 rfl rfl rfl fun a hF=>nu hF 1 rfl rfl rfl fun a hF=>nu hF 2 rfl rfl rfl fun a hF=>oV hF (aH (hF.at 3 rfl) ao) rfl fun a hF=>oA hF 0 rfl rfl fun a hF=>E.nil<|wp_cond_true hF.o<|wq<|oM hF 19 rfl rfl fun a hF=>oT hF 0 (aQ (c:=true) (aK (by omega))) rfl rfl fun a hF=>oM hF 0 rfl rfl fun a hF=>og hF (aB (hF.at 23 rfl)) 0 rfl rfl rfl fun a hF=>og hF (aq hF.o ao aa (aI (aQ (c:=true) (by decide)) (by simp))) 1 rfl rfl rfl fun a hF=>oV hF (aH hF.q hF.o) rfl fun a hF=>oM hF 0 rfl rfl fun a hF=>?_
     refine og hF (av (hF.at 41 rfl) (aX bw (st.bk 2 rfl) rfl)) 0 rfl rfl rfl fun a hF=>og hF (av (hF.at 35 rfl) (aX bi (st.bk 0 rfl) rfl)) 1 rfl rfl rfl fun a hF=>?_
     refine S.callxg st hF (ag rfl rfl hF.q rfl) (rgc k18 (aF hF.p hF.o)) (eL y m l x u pa pb pc pd _) rfl rfl rfl fun w12 a st hF=>?_
     refine og hF (aB (hF.at 29 rfl)) 3 rfl rfl rfl fun a hF=>og hF (aq hF.p hF.o aa (aI (aQ (c:=true) (by simp)) (by simp))) 4 rfl rfl rfl fun a hF=>oV hF (aH (hF.at 5 rfl) hF.o) rfl fun a hF=>oE hF 0 rfl rfl fun a hF=>nr ?_
     have bel:=st.bel
     refine rt Tryz.results4 hF 0 rfl ?_
     exact⟨rfl,bel⟩
    ·refine og hF (aq hF.o ao aa (aI (a9 (c:=false) (aL hc11)) (by simp))) 2 rfl rfl rfl fun a hF=>oV hF (aJ (hF.at 3 rfl) hF.o) rfl fun a hF=>oM hF 0 rfl rfl fun a hF=>og hF (az (hF.at 29 rfl) (eo (p:=3) rfl)) 0 rfl rfl rfl fun a hF=>og hF (av hF.o (aP (v:= iv x) (st.bk 2 rfl) rfl)) 1 rfl rfl rfl fun a hF=>?_
     by_cases hc13:30<x
     ·refine og hF (aq hF.o ao aa (aI (bN (c:=true) (aK hc13)) (by simp))) 2 rfl rfl rfl fun a hF=>oV hF (aJ (hF.at 3 rfl) hF.o) rfl fun a hF=>oA hF 0 rfl rfl fun a hF=>E.nil<|wp_cond_true hF.o<|wq<|oM hF 19 rfl rfl fun a hF=>oT hF 0 (aQ (c:=true) (aK (by omega))) rfl rfl fun a hF=>oM hF 0 rfl rfl fun a hF=>og hF (aB (hF.at 23 rfl)) 0 rfl rfl rfl fun a hF=>og hF (aq hF.o ao aa (aI (aQ (c:=true) (by decide)) (by simp))) 1 rfl rfl rfl fun a hF=>oV hF (aH hF.q hF.o) rfl fun a hF=>oM hF 0 rfl rfl fun a hF=>?_
      refine og hF (av (hF.at 41 rfl) (aX bw (st.bk 2 rfl) rfl)) 0 rfl rfl rfl fun a hF=>og hF (av (hF.at 35 rfl) (aX bi (st.bk 0 rfl) rfl)) 1 rfl rfl rfl fun a hF=>?_
      refine S.callxg st hF (ag rfl rfl hF.q rfl) (rgc k18 (aF hF.p hF.o)) (eL y m l x u pa pb pc pd _) rfl rfl rfl fun w14 a st hF=>?_
      refine og hF (aB (hF.at 29 rfl)) 3 rfl rfl rfl fun a hF=>og hF (aq hF.p hF.o aa (aI (aQ (c:=true) (by simp)) (by simp))) 4 rfl rfl rfl fun a hF=>oV hF (aH (hF.at 5 rfl) hF.o) rfl fun a hF=>oE hF 0 rfl rfl fun a hF=>nr ?_
      have bel:=st.bel
      refine rt Tryz.results4 hF 0 rfl ?_
      exact⟨rfl,bel⟩
     ·exfalso;omega
end Go.Proofs.YtddiipaomejcfaaGreatDoor
