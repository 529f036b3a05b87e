import Derived.Test.YtgdpkknapcgcbaaGreatDoorKC40
namespace Go.Proofs.YtgdpkknapcgcbaaGreatDoor
open Go.RowKit
set_option maxRecDepth 100000
set_option linter.unusedVariables false
set_option maxHeartbeats 8000000
theorem birthdays_walk (y0 m0 x0 la lb lc ld:Int) (w:World) (hT:bE w):
 CV 14 #[iv y0,iv m0,iv x0,iv la,iv lb,iv lc,iv ld] w (.bool true):=by
 obtain⟨pa,hpa⟩:∃z:Int,gA 60 120 la lb=z:=⟨_,rfl⟩
 obtain⟨pb,hpb⟩:∃z:Int,gB lb=z:=⟨_,rfl⟩
 obtain⟨pc,hpc⟩:∃z:Int,gA 180 360 lc ld=z:=⟨_,rfl⟩
 obtain⟨pd,hpd⟩:∃z:Int,gB ld=z:=⟨_,rfl⟩
 have hok:bN pa pb pc pd:=by rw[<-hpa,<-hpb,<-hpc,<-hpd];exact mj la lb lc ld
 have hp1:=hok.b0
 have hp2:=hok.b1
 have hp3:=hok.a0
 have hp4:=hok.a1
 have hp5:=hok.d0
 have hp6:=hok.d1
 have hp7:=hok.c0
 have hp8:=hok.c1
 obtain⟨y,hy⟩:∃z:Int,(if 0<=y0 then y0%7900 else -(-y0%7900))=z:=⟨_,rfl⟩
 have hyb:=mO (k:=y0) (n:=7900) (by decide)
 rw[hy] at hyb
 obtain⟨m,hmn⟩:∃z:Int,1+(m0%256)%12=z:=⟨_,rfl⟩
 have hmb:1<=m/\m<=12:=by omega
 obtain⟨x,hxn⟩:∃z:Int,1+(x0%256)%30=z:=⟨_,rfl⟩
 have hxb:1<=x/\x<=30:=by omega
 by_cases hA:(fiL y m).length =0
 ·by_cases hB:(fiL (y+1) m).length =0
  ·have st:=St.start w
   refine E.enter (nt:=92) (L:=[(0,iv y0),(1,iv m0),(2,iv x0),(3,iv la),(4,iv lb),(5,iv lc),(6,iv ld)]) Tryz.func14 rfl rfl rfl (aC (i:=0) rfl (aC (i:=1) rfl (aC (i:=2) rfl (aC (i:=3) rfl (aC (i:=4) rfl (aC (i:=5) rfl (aC (i:=6) rfl cC))))))) ?_
   intro a hF
   refine wq ?_
   refine oC hF rfl fun a hF=>ns<|wq<|cX st hF (rgc k52 fR) (mL _) rfl fun w1 a st hF=>oV hF (dF hF.o (cO _ false rfl)) rfl fun a hF=>E.nil<|wp_cond_false hF.o<|wp_skip<|E.norm<|wq<|oM hF 3 rfl rfl fun a hF=>oV hF (aq hF.o ao aa (iq (by decide) hy)) rfl fun a hF=>oM hF 6 rfl rfl fun a hF=>oV hF (aq hF.o ao aa (ix (n:=8) (by decide) (d:=256) (by decide) (by decide))) rfl fun a hF=>oV hF (aq hF.o ao aa (eK (a:=m0%256) (b:=12) (by omega) (by omega))) rfl fun a hF=>oV hF (aq ao hF.o aa (aX (by omega) (by omega))) rfl fun a hF=>oM hF 11 rfl rfl fun a hF=>?_
   refine oV hF (aq hF.o ao aa (ix (n:=8) (by decide) (d:=256) (by decide) (by decide))) rfl fun a hF=>oV hF (aq hF.o ao aa (eK (a:=x0%256) (b:=30) (by omega) (by omega))) rfl fun a hF=>oV hF (aq ao hF.o aa (aX (by omega) (by omega))) rfl fun a hF=>oE hF 8 rfl rfl fun a hF=>oE hF 5 rfl rfl fun a hF=>oE hF 2 rfl rfl fun a hF=>?_
   replace hF:Fr 92 a [(2,iv x),(1,iv m),(0,iv y),(32,iv (1+((x0%256)%30))),(31,iv ((x0%256)%30)),(30,iv (x0%256)),(29,iv x0),(28,iv (1+((m0%256)%12))),(27,iv ((m0%256)%12)),(26,iv (m0%256)),(25,iv m0),(24,iv y),(23,iv y0),(22,.bool false),(21,.bool true),(14,.bool false),(3,iv la),(4,iv lb),(5,iv lc),(6,iv ld)]:=by rw[<-hmn];rw[<-hxn];exact hF
   refine nq<|oM hF 16 rfl rfl fun a hF=>oM hF 18 rfl rfl fun a hF=>oM hF 20 rfl rfl fun a hF=>oM hF 22 rfl rfl fun a hF=>cX st hF (rgc k53 (fB (hF.at 3 rfl) hF.q hF.p hF.o)) (oD _ hpa hpb hpc hpd) rfl fun w2 a st hF=>S.new st hF 0 rfl be rfl rfl rfl rfl rfl fun g15 w3 a st hF=>nq<|oM hF 8 rfl rfl fun a hF=>oM hF 8 rfl rfl fun a hF=>oM hF 8 rfl rfl fun a hF=>oL hF st 3 0 be rfl rfl rfl rfl fun a hF=>?_
   refine cX st hF (rgc k51 (fB (hF.at 3 rfl) hF.q hF.p hF.o)) (iW y m x pa pb pc pd _ (hT.below st.bel) (by first|assumption|constructor<;>omega) (by omega) (by omega) (by omega) (by omega) (by omega) (by omega) hA) rfl fun w4 a st hF=>?_
   refine oM hF 0 rfl rfl fun a hF=>oV hF (aH (v:= iv 0) hF.o rfl) rfl fun a hF=>oV hF (aH (v:= iv 3) hF.p rfl) rfl fun a hF=>oA hF 1 rfl rfl fun a hF=>oA hF 1 rfl rfl fun a hF=>nq<|oM hF 18 rfl rfl fun a hF=>oV hF (aq hF.o ao aa (aX (by omega) (by omega))) rfl fun a hF=>oM hF 19 rfl rfl fun a hF=>oM hF 19 rfl rfl fun a hF=>oL hF st 14 0 be rfl rfl rfl rfl fun a hF=>cX st hF (rgc k51 (fB (hF.at 3 rfl) hF.q hF.p hF.o)) (iW (y+1) m x pa pb pc pd _ (hT.below st.bel) (by first|assumption|constructor<;>omega) (by omega) (by omega) (by omega) (by omega) (by omega) (by omega) hB) rfl fun w5 a st hF=>?_
   refine oM hF 0 rfl rfl fun a hF=>oV hF (aH (v:= iv 0) hF.o rfl) rfl fun a hF=>oV hF (aH (v:= iv 3) hF.p rfl) rfl fun a hF=>oA hF 1 rfl rfl fun a hF=>oA hF 1 rfl rfl fun a hF=>ns<|wq<|oM hF 11 rfl rfl fun a hF=>oT hF 0 (db (c:=true) (aI (by decide))) rfl rfl fun a hF=>oM hF 0 rfl rfl fun a hF=>nu hF 0 rfl rfl rfl fun a hF=>nu hF 1 rfl rfl rfl fun a hF=>oV hF (aK hF.q ao) rfl fun a hF=>?_
   refine E.nil<|wp_cond_true hF.o<|wq<|oM hF 17 rfl rfl fun a hF=>oT hF 0 (aV (c:=false) (aJ (by decide))) rfl rfl fun a hF=>oM hF 0 rfl rfl fun a hF=>og hF (aD (hF.at 20 rfl)) 0 rfl rfl rfl fun a hF=>og hF (aq hF.o ao aa (aO (aV (c:=true) (aI (by decide))) (by simp))) 1 rfl rfl rfl fun a hF=>oV hF (aQ hF.q hF.o) rfl fun a hF=>oM hF 0 rfl rfl fun a hF=>og hF (aD (hF.at 13 rfl)) 0 rfl rfl rfl fun a hF=>og hF (aq hF.o ao aa (aO (aV (c:=false) (aJ (by decide))) (by simp))) 1 rfl rfl rfl fun a hF=>og hF (aD hF.o) 2 rfl rfl rfl fun a hF=>og hF (aD (hF.at 16 rfl)) 0 rfl rfl rfl fun a hF=>og hF (aq hF.o ao aa (aO (aV (c:=true) (aI (by decide))) (by simp))) 1 rfl rfl rfl fun a hF=>og hF (aQ hF.q hF.o) 5 rfl rfl rfl fun a hF=>oV hF (aK (hF.at 6 rfl) hF.o) rfl fun a hF=>?_
   refine oE hF 0 rfl rfl fun a hF=>nr ?_
   have bel:=st.bel
   refine rt Tryz.results14 hF 0 rfl ?_
   exact⟨rfl,bel⟩
  ·obtain⟨M,hcM,hsM,hlM⟩:=uu hB
   obtain⟨nb,hnb⟩:∃z:Int,feV pa pb pc pd (30*aP (M+1)+(x-1))=z:=⟨_,rfl⟩
   have hwM:=fw hsM
   have hfM:=kM (y:=(y+1)) (m:=m) (by omega) (by omega) (by omega) (by omega)
   have hbM:=pf hok hcM (x:=x) (by omega) (by omega)
   have hdM:=gJ hok hcM
   have hnM:=fj hok hcM
   rw[hnb] at hbM
   have st:=St.start w
   refine E.enter (nt:=92) (L:=[(0,iv y0),(1,iv m0),(2,iv x0),(3,iv la),(4,iv lb),(5,iv lc),(6,iv ld)]) Tryz.func14 rfl rfl rfl (aC (i:=0) rfl (aC (i:=1) rfl (aC (i:=2) rfl (aC (i:=3) rfl (aC (i:=4) rfl (aC (i:=5) rfl (aC (i:=6) rfl cC))))))) ?_
   intro a hF
   refine wq ?_
   refine oC hF rfl fun a hF=>ns<|wq<|cX st hF (rgc k52 fR) (mL _) rfl fun w1 a st hF=>oV hF (dF hF.o (cO _ false rfl)) rfl fun a hF=>E.nil<|wp_cond_false hF.o<|wp_skip<|E.norm<|wq<|oM hF 3 rfl rfl fun a hF=>oV hF (aq hF.o ao aa (iq (by decide) hy)) rfl fun a hF=>oM hF 6 rfl rfl fun a hF=>oV hF (aq hF.o ao aa (ix (n:=8) (by decide) (d:=256) (by decide) (by decide))) rfl fun a hF=>oV hF (aq hF.o ao aa (eK (a:=m0%256) (b:=12) (by omega) (by omega))) rfl fun a hF=>oV hF (aq ao hF.o aa (aX (by omega) (by omega))) rfl fun a hF=>oM hF 11 rfl rfl fun a hF=>?_
   refine oV hF (aq hF.o ao aa (ix (n:=8) (by decide) (d:=256) (by decide) (by decide))) rfl fun a hF=>oV hF (aq hF.o ao aa (eK (a:=x0%256) (b:=30) (by omega) (by omega))) rfl fun a hF=>oV hF (aq ao hF.o aa (aX (by omega) (by omega))) rfl fun a hF=>oE hF 8 rfl rfl fun a hF=>oE hF 5 rfl rfl fun a hF=>oE hF 2 rfl rfl fun a hF=>?_
   replace hF:Fr 92 a [(2,iv x),(1,iv m),(0,iv y),(32,iv (1+((x0%256)%30))),(31,iv ((x0%256)%30)),(30,iv (x0%256)),(29,iv x0),(28,iv (1+((m0%256)%12))),(27,iv ((m0%256)%12)),(26,iv (m0%256)),(25,iv m0),(24,iv y),(23,iv y0),(22,.bool false),(21,.bool true),(14,.bool false),(3,iv la),(4,iv lb),(5,iv lc),(6,iv ld)]:=by rw[<-hmn];rw[<-hxn];exact hF
   refine nq<|oM hF 16 rfl rfl fun a hF=>oM hF 18 rfl rfl fun a hF=>oM hF 20 rfl rfl fun a hF=>oM hF 22 rfl rfl fun a hF=>cX st hF (rgc k53 (fB (hF.at 3 rfl) hF.q hF.p hF.o)) (oD _ hpa hpb hpc hpd) rfl fun w2 a st hF=>S.new st hF 0 rfl be rfl rfl rfl rfl rfl fun g15 w3 a st hF=>nq<|oM hF 8 rfl rfl fun a hF=>oM hF 8 rfl rfl fun a hF=>oM hF 8 rfl rfl fun a hF=>oL hF st 3 0 be rfl rfl rfl rfl fun a hF=>?_
   refine cX st hF (rgc k51 (fB (hF.at 3 rfl) hF.q hF.p hF.o)) (iW y m x pa pb pc pd _ (hT.below st.bel) (by first|assumption|constructor<;>omega) (by omega) (by omega) (by omega) (by omega) (by omega) (by omega) hA) rfl fun w4 a st hF=>?_
   refine oM hF 0 rfl rfl fun a hF=>oV hF (aH (v:= iv 0) hF.o rfl) rfl fun a hF=>oV hF (aH (v:= iv 3) hF.p rfl) rfl fun a hF=>oA hF 1 rfl rfl fun a hF=>oA hF 1 rfl rfl fun a hF=>nq<|oM hF 18 rfl rfl fun a hF=>oV hF (aq hF.o ao aa (aX (by omega) (by omega))) rfl fun a hF=>oM hF 19 rfl rfl fun a hF=>oM hF 19 rfl rfl fun a hF=>oL hF st 14 0 be rfl rfl rfl rfl fun a hF=>cX st hF (rgc k51 (fB (hF.at 3 rfl) hF.q hF.p hF.o)) (gE (y+1) m x pa pb pc pd _ (hT.below st.bel) (by first|assumption|constructor<;>omega) (by omega) (by omega) (by omega) (by omega) (by omega) (by omega) M nb hcM hsM hlM hnb (by omega) (by omega)) rfl fun w5 a st hF=>?_
   refine oM hF 0 rfl rfl fun a hF=>oV hF (aH (v:= iv nb) hF.o rfl) rfl fun a hF=>oV hF (aH (v:= iv 0) hF.p rfl) rfl fun a hF=>oA hF 1 rfl rfl fun a hF=>oA hF 1 rfl rfl fun a hF=>ns<|wq<|oM hF 11 rfl rfl fun a hF=>oT hF 0 (db (c:=true) (aI (by decide))) rfl rfl fun a hF=>oM hF 0 rfl rfl fun a hF=>nu hF 0 rfl rfl rfl fun a hF=>nu hF 1 rfl rfl rfl fun a hF=>oV hF (aK hF.q ao) rfl fun a hF=>?_
   refine E.nil<|wp_cond_true hF.o<|wq<|oM hF 17 rfl rfl fun a hF=>oT hF 0 (aV (c:=false) (aJ (by decide))) rfl rfl fun a hF=>oM hF 0 rfl rfl fun a hF=>og hF (aD (hF.at 20 rfl)) 0 rfl rfl rfl fun a hF=>og hF (aq hF.o ao aa (aO (aV (c:=true) (aI (by decide))) (by simp))) 1 rfl rfl rfl fun a hF=>oV hF (aQ hF.q hF.o) rfl fun a hF=>oM hF 0 rfl rfl fun a hF=>og hF (aD (hF.at 13 rfl)) 0 rfl rfl rfl fun a hF=>og hF (aq hF.o ao aa (aO (aV (c:=true) (aI (by decide))) (by simp))) 1 rfl rfl rfl fun a hF=>og hF (aD hF.o) 2 rfl rfl rfl fun a hF=>nu hF 0 rfl rfl rfl fun a hF=>nu hF 1 rfl rfl rfl fun a hF=>og hF (aK hF.q ao) 5 rfl rfl rfl fun a hF=>oV hF (aK (hF.at 6 rfl) hF.o) rfl fun a hF=>?_
   refine oE hF 0 rfl rfl fun a hF=>nr ?_
   have bel:=st.bel
   refine rt Tryz.results14 hF 0 rfl ?_
   exact⟨rfl,bel⟩
 ·obtain⟨L,hcL,hsL,hlL⟩:=uu hA
  obtain⟨na,hna⟩:∃z:Int,feV pa pb pc pd (30*aP (L+1)+(x-1))=z:=⟨_,rfl⟩
  have hwL:=fw hsL
  have hfL:=kM (y:=y) (m:=m) (by omega) (by omega) (by omega) (by omega)
  have hbL:=pf hok hcL (x:=x) (by omega) (by omega)
  have hdL:=gJ hok hcL
  have hnL:=fj hok hcL
  rw[hna] at hbL
  by_cases hB:(fiL (y+1) m).length =0
  ·have st:=St.start w
   refine E.enter (nt:=92) (L:=[(0,iv y0),(1,iv m0),(2,iv x0),(3,iv la),(4,iv lb),(5,iv lc),(6,iv ld)]) Tryz.func14 rfl rfl rfl (aC (i:=0) rfl (aC (i:=1) rfl (aC (i:=2) rfl (aC (i:=3) rfl (aC (i:=4) rfl (aC (i:=5) rfl (aC (i:=6) rfl cC))))))) ?_
   intro a hF
   refine wq ?_
   refine oC hF rfl fun a hF=>ns<|wq<|cX st hF (rgc k52 fR) (mL _) rfl fun w1 a st hF=>oV hF (dF hF.o (cO _ false rfl)) rfl fun a hF=>E.nil<|wp_cond_false hF.o<|wp_skip<|E.norm<|wq<|oM hF 3 rfl rfl fun a hF=>oV hF (aq hF.o ao aa (iq (by decide) hy)) rfl fun a hF=>oM hF 6 rfl rfl fun a hF=>oV hF (aq hF.o ao aa (ix (n:=8) (by decide) (d:=256) (by decide) (by decide))) rfl fun a hF=>oV hF (aq hF.o ao aa (eK (a:=m0%256) (b:=12) (by omega) (by omega))) rfl fun a hF=>oV hF (aq ao hF.o aa (aX (by omega) (by omega))) rfl fun a hF=>oM hF 11 rfl rfl fun a hF=>?_
   refine oV hF (aq hF.o ao aa (ix (n:=8) (by decide) (d:=256) (by decide) (by decide))) rfl fun a hF=>oV hF (aq hF.o ao aa (eK (a:=x0%256) (b:=30) (by omega) (by omega))) rfl fun a hF=>oV hF (aq ao hF.o aa (aX (by omega) (by omega))) rfl fun a hF=>oE hF 8 rfl rfl fun a hF=>oE hF 5 rfl rfl fun a hF=>oE hF 2 rfl rfl fun a hF=>?_
   replace hF:Fr 92 a [(2,iv x),(1,iv m),(0,iv y),(32,iv (1+((x0%256)%30))),(31,iv ((x0%256)%30)),(30,iv (x0%256)),(29,iv x0),(28,iv (1+((m0%256)%12))),(27,iv ((m0%256)%12)),(26,iv (m0%256)),(25,iv m0),(24,iv y),(23,iv y0),(22,.bool false),(21,.bool true),(14,.bool false),(3,iv la),(4,iv lb),(5,iv lc),(6,iv ld)]:=by rw[<-hmn];rw[<-hxn];exact hF
   refine nq<|oM hF 16 rfl rfl fun a hF=>oM hF 18 rfl rfl fun a hF=>oM hF 20 rfl rfl fun a hF=>oM hF 22 rfl rfl fun a hF=>cX st hF (rgc k53 (fB (hF.at 3 rfl) hF.q hF.p hF.o)) (oD _ hpa hpb hpc hpd) rfl fun w2 a st hF=>S.new st hF 0 rfl be rfl rfl rfl rfl rfl fun g15 w3 a st hF=>nq<|oM hF 8 rfl rfl fun a hF=>oM hF 8 rfl rfl fun a hF=>oM hF 8 rfl rfl fun a hF=>oL hF st 3 0 be rfl rfl rfl rfl fun a hF=>?_
   refine cX st hF (rgc k51 (fB (hF.at 3 rfl) hF.q hF.p hF.o)) (gE y m x pa pb pc pd _ (hT.below st.bel) (by first|assumption|constructor<;>omega) (by omega) (by omega) (by omega) (by omega) (by omega) (by omega) L na hcL hsL hlL hna (by omega) (by omega)) rfl fun w4 a st hF=>?_
   refine oM hF 0 rfl rfl fun a hF=>oV hF (aH (v:= iv na) hF.o rfl) rfl fun a hF=>oV hF (aH (v:= iv 0) hF.p rfl) rfl fun a hF=>oA hF 1 rfl rfl fun a hF=>oA hF 1 rfl rfl fun a hF=>nq<|oM hF 18 rfl rfl fun a hF=>oV hF (aq hF.o ao aa (aX (by omega) (by omega))) rfl fun a hF=>oM hF 19 rfl rfl fun a hF=>oM hF 19 rfl rfl fun a hF=>oL hF st 14 0 be rfl rfl rfl rfl fun a hF=>cX st hF (rgc k51 (fB (hF.at 3 rfl) hF.q hF.p hF.o)) (iW (y+1) m x pa pb pc pd _ (hT.below st.bel) (by first|assumption|constructor<;>omega) (by omega) (by omega) (by omega) (by omega) (by omega) (by omega) hB) rfl fun w5 a st hF=>?_
   refine oM hF 0 rfl rfl fun a hF=>oV hF (aH (v:= iv 0) hF.o rfl) rfl fun a hF=>oV hF (aH (v:= iv 3) hF.p rfl) rfl fun a hF=>oA hF 1 rfl rfl fun a hF=>oA hF 1 rfl rfl fun a hF=>ns<|wq<|oM hF 11 rfl rfl fun a hF=>oT hF 0 (db (c:=false) (aJ (by decide))) rfl rfl fun a hF=>oM hF 0 rfl rfl fun a hF=>og hF (aD (hF.at 3 rfl)) 0 rfl rfl rfl fun a hF=>og hF (aq hF.o ao aa (aO (db (c:=true) (aI (by decide))) (by simp))) 1 rfl rfl rfl fun a hF=>oV hF (aQ hF.q hF.o) rfl fun a hF=>?_
   refine E.nil<|wp_cond_true hF.o<|wq<|oM hF 17 rfl rfl fun a hF=>oT hF 0 (aV (c:=true) (aI (by decide))) rfl rfl fun a hF=>oM hF 0 rfl rfl fun a hF=>nu hF 0 rfl rfl rfl fun a hF=>nu hF 1 rfl rfl rfl fun a hF=>oV hF (aK hF.q ao) rfl fun a hF=>oM hF 0 rfl rfl fun a hF=>og hF (aD (hF.at 13 rfl)) 0 rfl rfl rfl fun a hF=>og hF (aq hF.o ao aa (aO (aV (c:=false) (aJ (by decide))) (by simp))) 1 rfl rfl rfl fun a hF=>og hF (aD hF.o) 2 rfl rfl rfl fun a hF=>og hF (aD (hF.at 16 rfl)) 0 rfl rfl rfl fun a hF=>og hF (aq hF.o ao aa (aO (aV (c:=true) (aI (by decide))) (by simp))) 1 rfl rfl rfl fun a hF=>og hF (aQ hF.q hF.o) 5 rfl rfl rfl fun a hF=>oV hF (aK (hF.at 6 rfl) hF.o) rfl fun a hF=>?_
   refine oE hF 0 rfl rfl fun a hF=>nr ?_
   have bel:=st.bel
   refine rt Tryz.results14 hF 0 rfl ?_
   exact⟨rfl,bel⟩
  ·obtain⟨M,hcM,hsM,hlM⟩:=uu hB
   obtain⟨nb,hnb⟩:∃z:Int,feV pa pb pc pd (30*aP (M+1)+(x-1))=z:=⟨_,rfl⟩
   have hwM:=fw hsM
   have hfM:=kM (y:=(y+1)) (m:=m) (by omega) (by omega) (by omega) (by omega)
   have hbM:=pf hok hcM (x:=x) (by omega) (by omega)
   have hdM:=gJ hok hcM
   have hnM:=fj hok hcM
   rw[hnb] at hbM
   have hg:=GH (x:=x) hok hcL hcM hsL hlL hsM hlM
   rw[hna,hnb] at hg
   rcases hg with hg|hg
   ·have st:=St.start w
    refine E.enter (nt:=92) (L:=[(0,iv y0),(1,iv m0),(2,iv x0),(3,iv la),(4,iv lb),(5,iv lc),(6,iv ld)]) Tryz.func14 rfl rfl rfl (aC (i:=0) rfl (aC (i:=1) rfl (aC (i:=2) rfl (aC (i:=3) rfl (aC (i:=4) rfl (aC (i:=5) rfl (aC (i:=6) rfl cC))))))) ?_
    intro a hF
    refine wq ?_
    refine oC hF rfl fun a hF=>ns<|wq<|cX st hF (rgc k52 fR) (mL _) rfl fun w1 a st hF=>oV hF (dF hF.o (cO _ false rfl)) rfl fun a hF=>E.nil<|wp_cond_false hF.o<|wp_skip<|E.norm<|wq<|oM hF 3 rfl rfl fun a hF=>oV hF (aq hF.o ao aa (iq (by decide) hy)) rfl fun a hF=>oM hF 6 rfl rfl fun a hF=>oV hF (aq hF.o ao aa (ix (n:=8) (by decide) (d:=256) (by decide) (by decide))) rfl fun a hF=>oV hF (aq hF.o ao aa (eK (a:=m0%256) (b:=12) (by omega) (by omega))) rfl fun a hF=>oV hF (aq ao hF.o aa (aX (by omega) (by omega))) rfl fun a hF=>oM hF 11 rfl rfl fun a hF=>?_
    refine oV hF (aq hF.o ao aa (ix (n:=8) (by decide) (d:=256) (by decide) (by decide))) rfl fun a hF=>oV hF (aq hF.o ao aa (eK (a:=x0%256) (b:=30) (by omega) (by omega))) rfl fun a hF=>oV hF (aq ao hF.o aa (aX (by omega) (by omega))) rfl fun a hF=>oE hF 8 rfl rfl fun a hF=>oE hF 5 rfl rfl fun a hF=>oE hF 2 rfl rfl fun a hF=>?_
    replace hF:Fr 92 a [(2,iv x),(1,iv m),(0,iv y),(32,iv (1+((x0%256)%30))),(31,iv ((x0%256)%30)),(30,iv (x0%256)),(29,iv x0),(28,iv (1+((m0%256)%12))),(27,iv ((m0%256)%12)),(26,iv (m0%256)),(25,iv m0),(24,iv y),(23,iv y0),(22,.bool false),(21,.bool true),(14,.bool false),(3,iv la),(4,iv lb),(5,iv lc),(6,iv ld)]:=by rw[<-hmn];rw[<-hxn];exact hF
    refine nq<|oM hF 16 rfl rfl fun a hF=>oM hF 18 rfl rfl fun a hF=>oM hF 20 rfl rfl fun a hF=>oM hF 22 rfl rfl fun a hF=>cX st hF (rgc k53 (fB (hF.at 3 rfl) hF.q hF.p hF.o)) (oD _ hpa hpb hpc hpd) rfl fun w2 a st hF=>S.new st hF 0 rfl be rfl rfl rfl rfl rfl fun g15 w3 a st hF=>nq<|oM hF 8 rfl rfl fun a hF=>oM hF 8 rfl rfl fun a hF=>oM hF 8 rfl rfl fun a hF=>oL hF st 3 0 be rfl rfl rfl rfl fun a hF=>?_
    refine cX st hF (rgc k51 (fB (hF.at 3 rfl) hF.q hF.p hF.o)) (gE y m x pa pb pc pd _ (hT.below st.bel) (by first|assumption|constructor<;>omega) (by omega) (by omega) (by omega) (by omega) (by omega) (by omega) L na hcL hsL hlL hna (by omega) (by omega)) rfl fun w4 a st hF=>?_
    refine oM hF 0 rfl rfl fun a hF=>oV hF (aH (v:= iv na) hF.o rfl) rfl fun a hF=>oV hF (aH (v:= iv 0) hF.p rfl) rfl fun a hF=>oA hF 1 rfl rfl fun a hF=>oA hF 1 rfl rfl fun a hF=>nq<|oM hF 18 rfl rfl fun a hF=>oV hF (aq hF.o ao aa (aX (by omega) (by omega))) rfl fun a hF=>oM hF 19 rfl rfl fun a hF=>oM hF 19 rfl rfl fun a hF=>oL hF st 14 0 be rfl rfl rfl rfl fun a hF=>cX st hF (rgc k51 (fB (hF.at 3 rfl) hF.q hF.p hF.o)) (gE (y+1) m x pa pb pc pd _ (hT.below st.bel) (by first|assumption|constructor<;>omega) (by omega) (by omega) (by omega) (by omega) (by omega) (by omega) M nb hcM hsM hlM hnb (by omega) (by omega)) rfl fun w5 a st hF=>?_
    refine oM hF 0 rfl rfl fun a hF=>oV hF (aH (v:= iv nb) hF.o rfl) rfl fun a hF=>oV hF (aH (v:= iv 0) hF.p rfl) rfl fun a hF=>oA hF 1 rfl rfl fun a hF=>oA hF 1 rfl rfl fun a hF=>ns<|wq<|oM hF 11 rfl rfl fun a hF=>oT hF 0 (db (c:=false) (aJ (by decide))) rfl rfl fun a hF=>oM hF 0 rfl rfl fun a hF=>og hF (aD (hF.at 3 rfl)) 0 rfl rfl rfl fun a hF=>og hF (aq hF.o ao aa (aO (db (c:=false) (aJ (by decide))) (by simp))) 1 rfl rfl rfl fun a hF=>oV hF (aQ hF.q hF.o) rfl fun a hF=>?_
    refine E.nil<|wp_cond_false hF.o<|wp_skip<|E.norm<|wq ?_
    refine oM hF 7 rfl rfl fun a hF=>oM hF 19 rfl rfl fun a hF=>oV hF (aq hF.p hF.o aa (bB (by omega) (by omega))) rfl fun a hF=>oA hF 0 rfl rfl fun a hF=>nq<|oM hF 0 rfl rfl fun a hF=>oT hF 0 (dI (c:=true) (aI (by omega))) rfl rfl fun a hF=>oM hF 0 rfl rfl fun a hF=>og hF (aD (hF.at 3 rfl)) 0 rfl rfl rfl fun a hF=>og hF (aq hF.o ao aa (aO (cg (c:=true) (aI (by omega))) (by simp))) 1 rfl rfl rfl fun a hF=>oV hF (aK hF.q hF.o) rfl fun a hF=>oM hF 0 rfl rfl fun a hF=>nu hF 0 rfl rfl rfl fun a hF=>nu hF 1 rfl rfl rfl fun a hF=>nu hF 2 rfl rfl rfl fun a hF=>?_
    refine E.unwanted hF (bJ rfl rfl hF.o) rfl rfl rfl fun a hF=>?_
    refine E.unwanted hF (bJ rfl rfl hF.p) rfl rfl rfl fun a hF=>?_
    refine nu hF 5 rfl rfl rfl fun a hF=>oV hF (aK (hF.at 6 rfl) ao) rfl fun a hF=>oE hF 0 rfl rfl fun a hF=>nr ?_
    have bel:=st.bel
    refine rt Tryz.results14 hF 0 rfl ?_
    exact⟨rfl,bel⟩
   ·have st:=St.start w
    refine E.enter (nt:=92) (L:=[(0,iv y0),(1,iv m0),(2,iv x0),(3,iv la),(4,iv lb),(5,iv lc),(6,iv ld)]) Tryz.func14 rfl rfl rfl (aC (i:=0) rfl (aC (i:=1) rfl (aC (i:=2) rfl (aC (i:=3) rfl (aC (i:=4) rfl (aC (i:=5) rfl (aC (i:=6) rfl cC))))))) ?_
    intro a hF
    refine wq ?_
    refine oC hF rfl fun a hF=>ns<|wq<|cX st hF (rgc k52 fR) (mL _) rfl fun w1 a st hF=>oV hF (dF hF.o (cO _ false rfl)) rfl fun a hF=>E.nil<|wp_cond_false hF.o<|wp_skip<|E.norm<|wq<|oM hF 3 rfl rfl fun a hF=>oV hF (aq hF.o ao aa (iq (by decide) hy)) rfl fun a hF=>oM hF 6 rfl rfl fun a hF=>oV hF (aq hF.o ao aa (ix (n:=8) (by decide) (d:=256) (by decide) (by decide))) rfl fun a hF=>oV hF (aq hF.o ao aa (eK (a:=m0%256) (b:=12) (by omega) (by omega))) rfl fun a hF=>oV hF (aq ao hF.o aa (aX (by omega) (by omega))) rfl fun a hF=>oM hF 11 rfl rfl fun a hF=>?_
    refine oV hF (aq hF.o ao aa (ix (n:=8) (by decide) (d:=256) (by decide) (by decide))) rfl fun a hF=>oV hF (aq hF.o ao aa (eK (a:=x0%256) (b:=30) (by omega) (by omega))) rfl fun a hF=>oV hF (aq ao hF.o aa (aX (by omega) (by omega))) rfl fun a hF=>oE hF 8 rfl rfl fun a hF=>oE hF 5 rfl rfl fun a hF=>oE hF 2 rfl rfl fun a hF=>?_
    replace hF:Fr 92 a [(2,iv x),(1,iv m),(0,iv y),(32,iv (1+((x0%256)%30))),(31,iv ((x0%256)%30)),(30,iv (x0%256)),(29,iv x0),(28,iv (1+((m0%256)%12))),(27,iv ((m0%256)%12)),(26,iv (m0%256)),(25,iv m0),(24,iv y),(23,iv y0),(22,.bool false),(21,.bool true),(14,.bool false),(3,iv la),(4,iv lb),(5,iv lc),(6,iv ld)]:=by rw[<-hmn];rw[<-hxn];exact hF
    refine nq<|oM hF 16 rfl rfl fun a hF=>oM hF 18 rfl rfl fun a hF=>oM hF 20 rfl rfl fun a hF=>oM hF 22 rfl rfl fun a hF=>cX st hF (rgc k53 (fB (hF.at 3 rfl) hF.q hF.p hF.o)) (oD _ hpa hpb hpc hpd) rfl fun w2 a st hF=>S.new st hF 0 rfl be rfl rfl rfl rfl rfl fun g15 w3 a st hF=>nq<|oM hF 8 rfl rfl fun a hF=>oM hF 8 rfl rfl fun a hF=>oM hF 8 rfl rfl fun a hF=>oL hF st 3 0 be rfl rfl rfl rfl fun a hF=>?_
    refine cX st hF (rgc k51 (fB (hF.at 3 rfl) hF.q hF.p hF.o)) (gE y m x pa pb pc pd _ (hT.below st.bel) (by first|assumption|constructor<;>omega) (by omega) (by omega) (by omega) (by omega) (by omega) (by omega) L na hcL hsL hlL hna (by omega) (by omega)) rfl fun w4 a st hF=>?_
    refine oM hF 0 rfl rfl fun a hF=>oV hF (aH (v:= iv na) hF.o rfl) rfl fun a hF=>oV hF (aH (v:= iv 0) hF.p rfl) rfl fun a hF=>oA hF 1 rfl rfl fun a hF=>oA hF 1 rfl rfl fun a hF=>nq<|oM hF 18 rfl rfl fun a hF=>oV hF (aq hF.o ao aa (aX (by omega) (by omega))) rfl fun a hF=>oM hF 19 rfl rfl fun a hF=>oM hF 19 rfl rfl fun a hF=>oL hF st 14 0 be rfl rfl rfl rfl fun a hF=>cX st hF (rgc k51 (fB (hF.at 3 rfl) hF.q hF.p hF.o)) (gE (y+1) m x pa pb pc pd _ (hT.below st.bel) (by first|assumption|constructor<;>omega) (by omega) (by omega) (by omega) (by omega) (by omega) (by omega) M nb hcM hsM hlM hnb (by omega) (by omega)) rfl fun w5 a st hF=>?_
    refine oM hF 0 rfl rfl fun a hF=>oV hF (aH (v:= iv nb) hF.o rfl) rfl fun a hF=>oV hF (aH (v:= iv 0) hF.p rfl) rfl fun a hF=>oA hF 1 rfl rfl fun a hF=>oA hF 1 rfl rfl fun a hF=>ns<|wq<|oM hF 11 rfl rfl fun a hF=>oT hF 0 (db (c:=false) (aJ (by decide))) rfl rfl fun a hF=>oM hF 0 rfl rfl fun a hF=>og hF (aD (hF.at 3 rfl)) 0 rfl rfl rfl fun a hF=>og hF (aq hF.o ao aa (aO (db (c:=false) (aJ (by decide))) (by simp))) 1 rfl rfl rfl fun a hF=>oV hF (aQ hF.q hF.o) rfl fun a hF=>?_
    refine E.nil<|wp_cond_false hF.o<|wp_skip<|E.norm<|wq ?_
    refine oM hF 7 rfl rfl fun a hF=>oM hF 19 rfl rfl fun a hF=>oV hF (aq hF.p hF.o aa (bB (by omega) (by omega))) rfl fun a hF=>oA hF 0 rfl rfl fun a hF=>nq<|oM hF 0 rfl rfl fun a hF=>oT hF 0 (dI (c:=true) (aI (by omega))) rfl rfl fun a hF=>oM hF 0 rfl rfl fun a hF=>og hF (aD (hF.at 3 rfl)) 0 rfl rfl rfl fun a hF=>og hF (aq hF.o ao aa (aO (cg (c:=false) (aJ (by omega))) (by simp))) 1 rfl rfl rfl fun a hF=>oV hF (aK hF.q hF.o) rfl fun a hF=>oM hF 0 rfl rfl fun a hF=>og hF (aD (hF.at 7 rfl)) 0 rfl rfl rfl fun a hF=>og hF (aq hF.o ao aa (aO (dI (c:=true) (aI (by omega))) (by simp))) 1 rfl rfl rfl fun a hF=>og hF (aD hF.o) 2 rfl rfl rfl fun a hF=>og hF (aD (hF.at 10 rfl)) 0 rfl rfl rfl fun a hF=>og hF (aq hF.o ao aa (aO (cg (c:=true) (aI (by omega))) (by simp))) 1 rfl rfl rfl fun a hF=>og hF (aK hF.q hF.o) 5 rfl rfl rfl fun a hF=>oV hF (aQ (hF.at 6 rfl) hF.o) rfl fun a hF=>?_
    refine oE hF 0 rfl rfl fun a hF=>nr ?_
    have bel:=st.bel
    refine rt Tryz.results14 hF 0 rfl ?_
    exact⟨rfl,bel⟩
end Go.Proofs.YtgdpkknapcgcbaaGreatDoor
