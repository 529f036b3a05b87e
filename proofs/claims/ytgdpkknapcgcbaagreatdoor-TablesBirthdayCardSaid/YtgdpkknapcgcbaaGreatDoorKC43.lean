import Derived.Test.YtgdpkknapcgcbaaGreatDoorKC40
namespace Go.Proofs.YtgdpkknapcgcbaaGreatDoor
open Go.RowKit
set_option maxRecDepth 100000
set_option linter.unusedVariables false
set_option maxHeartbeats 8000000
theorem tablesBirthday_walk (y0 m x wa wb wc wd:Int) (w:World) (hT:bE w):
 CV 13 #[iv y0,iv m,iv x,.agg #[iv wa,iv wb,iv wc,iv wd]] w (.bool true):=by
 obtain⟨pa,hpa⟩:∃z:Int,gA 60 120 wa wb=z:=⟨_,rfl⟩
 obtain⟨pb,hpb⟩:∃z:Int,gB wb=z:=⟨_,rfl⟩
 obtain⟨pc,hpc⟩:∃z:Int,gA 180 360 wc wd=z:=⟨_,rfl⟩
 obtain⟨pd,hpd⟩:∃z:Int,gB wd=z:=⟨_,rfl⟩
 have hok:bN pa pb pc pd:=by rw[<-hpa,<-hpb,<-hpc,<-hpd];exact mj wa wb wc wd
 have hp1:=hok.b0
 have hp2:=hok.b1
 have hp3:=hok.a0
 have hp4:=hok.a1
 have hp5:=hok.d0
 have hp6:=hok.d1
 have hp7:=hok.c0
 have hp8:=hok.c1
 obtain⟨y,hy⟩:∃z:Int,(if 0<=y0 then y0%8000 else -(-y0%8000))=z:=⟨_,rfl⟩
 have hyb:=mO (k:=y0) (n:=8000) (by decide)
 rw[hy] at hyb
 by_cases hA:m<1\/12<m\/x<1\/30<x
 ·have hE:=Re (y:=y) (rK hok) hA
  have st:=St.start w
  refine E.enter (nt:=110) (L:=[(0,iv y0),(1,iv m),(2,iv x),(3,.agg #[iv wa,iv wb,iv wc,iv wd])]) Tryz.func13 rfl rfl rfl (aC (i:=0) rfl (aC (i:=1) rfl (aC (i:=2) rfl (aC (i:=3) rfl cC)))) ?_
  intro a hF
  refine wq<|bx st hF 3 rfl rfl fun g7 w1 a st hF=>?_
  refine oC hF rfl fun a hF=>ns<|wq<|cX st hF (rgc k38 fR) (iE _ (hT.below st.bel)) rfl fun w2 a st hF=>oV hF (dF hF.o (cO _ false rfl)) rfl fun a hF=>E.nil<|wp_cond_false hF.o<|wp_skip<|E.norm<|wq<|oM hF 4 rfl rfl fun a hF=>oV hF (aq hF.o ao aa (iq (by decide) hy)) rfl fun a hF=>oL hF st 5 0 oH rfl rfl rfl rfl fun a hF=>?_
  refine cX st hF (rgc k17 (aG hF.o)) (kP _ hpa hpb hpc hpd) rfl fun w3 a st hF=>S.alloc st hF be rfl rfl fun g9 w4 a st hF=>oE hF 3 rfl rfl fun a hF=>S.stoI st hF 0 rfl hF.p hF.q be rfl rfl rfl fun w5 a st hF=>nq<|oM hF 0 rfl rfl fun a hF=>oM hF 11 rfl rfl fun a hF=>oM hF 13 rfl rfl fun a hF=>oL hF st 4 0 be rfl rfl rfl rfl fun a hF=>?_
  refine cX st hF (rgc k51 (fB (hF.at 3 rfl) hF.q hF.p hF.o)) (yL y m x pa pb pc pd _ 4 hE (by decide)) rfl fun w6 a st hF=>?_
  refine oM hF 0 rfl rfl fun a hF=>oV hF (aH (v:= iv 0) hF.o rfl) rfl fun a hF=>oV hF (aH (v:= iv 4) hF.p rfl) rfl fun a hF=>oA hF 1 rfl rfl fun a hF=>oA hF 1 rfl rfl fun a hF=>ns<|wq<|oM hF 20 rfl rfl fun a hF=>?_
  by_cases hc7:m<1
  ·refine oT hF 0 (aY (c:=true) (aI (by omega))) rfl rfl fun a hF=>oM hF 0 rfl rfl fun a hF=>nu hF 0 rfl rfl rfl fun a hF=>nu hF 1 rfl rfl rfl fun a hF=>oV hF (aK hF.q ao) rfl fun a hF=>oM hF 0 rfl rfl fun a hF=>nu hF 0 rfl rfl rfl fun a hF=>nu hF 1 rfl rfl rfl fun a hF=>oV hF (aK hF.q ao) rfl fun a hF=>oM hF 0 rfl rfl fun a hF=>nu hF 0 rfl rfl rfl fun a hF=>nu hF 1 rfl rfl rfl fun a hF=>oV hF (aK hF.q ao) rfl fun a hF=>?_
   refine E.nil<|wp_cond_true hF.o<|wq<|oM hF 14 rfl rfl fun a hF=>oT hF 0 (aV (c:=true) (aI (by decide))) rfl rfl fun a hF=>oM hF 0 rfl rfl fun a hF=>og hF (aD (hF.at 18 rfl)) 0 rfl rfl rfl fun a hF=>og hF (aq hF.o ao aa (aO (aV (c:=true) (aI (by decide))) (by simp))) 1 rfl rfl rfl fun a hF=>oV hF (aK hF.q hF.o) rfl fun a hF=>oE hF 0 rfl rfl fun a hF=>nr ?_
   have bel:=st.bel
   refine rt Tryz.results13 hF 0 rfl ?_
   exact⟨rfl,bel⟩
  ·refine oT hF 0 (aY (c:=false) (aJ (by omega))) rfl rfl fun a hF=>oM hF 0 rfl rfl fun a hF=>og hF (aD (hF.at 23 rfl)) 0 rfl rfl rfl fun a hF=>?_
   by_cases hc8:12<m
   ·refine og hF (aq hF.o ao aa (aO (bT (c:=true) (aI (by omega))) (by simp))) 1 rfl rfl rfl fun a hF=>oV hF (aQ hF.q hF.o) rfl fun a hF=>oM hF 0 rfl rfl fun a hF=>nu hF 0 rfl rfl rfl fun a hF=>nu hF 1 rfl rfl rfl fun a hF=>oV hF (aK hF.q ao) rfl fun a hF=>oM hF 0 rfl rfl fun a hF=>nu hF 0 rfl rfl rfl fun a hF=>nu hF 1 rfl rfl rfl fun a hF=>oV hF (aK hF.q ao) rfl fun a hF=>E.nil<|wp_cond_true hF.o ?_
    refine wq<|oM hF 14 rfl rfl fun a hF=>oT hF 0 (aV (c:=true) (aI (by decide))) rfl rfl fun a hF=>oM hF 0 rfl rfl fun a hF=>og hF (aD (hF.at 18 rfl)) 0 rfl rfl rfl fun a hF=>og hF (aq hF.o ao aa (aO (aV (c:=true) (aI (by decide))) (by simp))) 1 rfl rfl rfl fun a hF=>oV hF (aK hF.q hF.o) rfl fun a hF=>oE hF 0 rfl rfl fun a hF=>nr ?_
    have bel:=st.bel
    refine rt Tryz.results13 hF 0 rfl ?_
    exact⟨rfl,bel⟩
   ·refine og hF (aq hF.o ao aa (aO (bT (c:=false) (aJ (by omega))) (by simp))) 1 rfl rfl rfl fun a hF=>oV hF (aQ hF.q hF.o) rfl fun a hF=>oM hF 0 rfl rfl fun a hF=>og hF (aD (hF.at 28 rfl)) 0 rfl rfl rfl fun a hF=>?_
    by_cases hc9:x<1
    ·refine og hF (aq hF.o ao aa (aO (aY (c:=true) (aI (by omega))) (by simp))) 1 rfl rfl rfl fun a hF=>oV hF (aQ hF.q hF.o) rfl fun a hF=>oM hF 0 rfl rfl fun a hF=>nu hF 0 rfl rfl rfl fun a hF=>nu hF 1 rfl rfl rfl fun a hF=>oV hF (aK hF.q ao) rfl fun a hF=>E.nil<|wp_cond_true hF.o<|wq<|oM hF 14 rfl rfl fun a hF=>oT hF 0 (aV (c:=true) (aI (by decide))) rfl rfl fun a hF=>oM hF 0 rfl rfl fun a hF=>og hF (aD (hF.at 18 rfl)) 0 rfl rfl rfl fun a hF=>og hF (aq hF.o ao aa (aO (aV (c:=true) (aI (by decide))) (by simp))) 1 rfl rfl rfl fun a hF=>oV hF (aK hF.q hF.o) rfl fun a hF=>oE hF 0 rfl rfl fun a hF=>?_
     refine nr ?_
     have bel:=st.bel
     refine rt Tryz.results13 hF 0 rfl ?_
     exact⟨rfl,bel⟩
    ·refine og hF (aq hF.o ao aa (aO (aY (c:=false) (aJ (by omega))) (by simp))) 1 rfl rfl rfl fun a hF=>oV hF (aQ hF.q hF.o) rfl fun a hF=>oM hF 0 rfl rfl fun a hF=>og hF (aD (hF.at 32 rfl)) 0 rfl rfl rfl fun a hF=>og hF (aq hF.o ao aa (aO (bT (c:=true) (aI (by omega))) (by simp))) 1 rfl rfl rfl fun a hF=>oV hF (aQ hF.q hF.o) rfl fun a hF=>E.nil<|wp_cond_true hF.o<|wq<|oM hF 14 rfl rfl fun a hF=>oT hF 0 (aV (c:=true) (aI (by decide))) rfl rfl fun a hF=>oM hF 0 rfl rfl fun a hF=>og hF (aD (hF.at 18 rfl)) 0 rfl rfl rfl fun a hF=>og hF (aq hF.o ao aa (aO (aV (c:=true) (aI (by decide))) (by simp))) 1 rfl rfl rfl fun a hF=>oV hF (aK hF.q hF.o) rfl fun a hF=>oE hF 0 rfl rfl fun a hF=>?_
     refine nr ?_
     have bel:=st.bel
     refine rt Tryz.results13 hF 0 rfl ?_
     exact⟨rfl,bel⟩
 ·by_cases hN0:(fiL y m).length =0
  ·have st:=St.start w
   refine E.enter (nt:=110) (L:=[(0,iv y0),(1,iv m),(2,iv x),(3,.agg #[iv wa,iv wb,iv wc,iv wd])]) Tryz.func13 rfl rfl rfl (aC (i:=0) rfl (aC (i:=1) rfl (aC (i:=2) rfl (aC (i:=3) rfl cC)))) ?_
   intro a hF
   refine wq<|bx st hF 3 rfl rfl fun g7 w1 a st hF=>?_
   refine oC hF rfl fun a hF=>ns<|wq<|cX st hF (rgc k38 fR) (iE _ (hT.below st.bel)) rfl fun w2 a st hF=>oV hF (dF hF.o (cO _ false rfl)) rfl fun a hF=>E.nil<|wp_cond_false hF.o<|wp_skip<|E.norm<|wq<|oM hF 4 rfl rfl fun a hF=>oV hF (aq hF.o ao aa (iq (by decide) hy)) rfl fun a hF=>oL hF st 5 0 oH rfl rfl rfl rfl fun a hF=>?_
   refine cX st hF (rgc k17 (aG hF.o)) (kP _ hpa hpb hpc hpd) rfl fun w3 a st hF=>S.alloc st hF be rfl rfl fun g9 w4 a st hF=>oE hF 3 rfl rfl fun a hF=>S.stoI st hF 0 rfl hF.p hF.q be rfl rfl rfl fun w5 a st hF=>nq<|oM hF 0 rfl rfl fun a hF=>oM hF 11 rfl rfl fun a hF=>oM hF 13 rfl rfl fun a hF=>oL hF st 4 0 be rfl rfl rfl rfl fun a hF=>?_
   refine cX st hF (rgc k51 (fB (hF.at 3 rfl) hF.q hF.p hF.o)) (iW y m x pa pb pc pd _ (hT.below st.bel) (by first|assumption|constructor<;>omega) (by omega) (by omega) (by omega) (by omega) (by omega) (by omega) hN0) rfl fun w6 a st hF=>?_
   refine oM hF 0 rfl rfl fun a hF=>oV hF (aH (v:= iv 0) hF.o rfl) rfl fun a hF=>oV hF (aH (v:= iv 3) hF.p rfl) rfl fun a hF=>oA hF 1 rfl rfl fun a hF=>oA hF 1 rfl rfl fun a hF=>ns<|wq<|oM hF 20 rfl rfl fun a hF=>oT hF 0 (aY (c:=false) (aJ (by omega))) rfl rfl fun a hF=>oM hF 0 rfl rfl fun a hF=>og hF (aD (hF.at 23 rfl)) 0 rfl rfl rfl fun a hF=>og hF (aq hF.o ao aa (aO (bT (c:=false) (aJ (by omega))) (by simp))) 1 rfl rfl rfl fun a hF=>oV hF (aQ hF.q hF.o) rfl fun a hF=>oM hF 0 rfl rfl fun a hF=>?_
   refine og hF (aD (hF.at 28 rfl)) 0 rfl rfl rfl fun a hF=>og hF (aq hF.o ao aa (aO (aY (c:=false) (aJ (by omega))) (by simp))) 1 rfl rfl rfl fun a hF=>oV hF (aQ hF.q hF.o) rfl fun a hF=>oM hF 0 rfl rfl fun a hF=>og hF (aD (hF.at 32 rfl)) 0 rfl rfl rfl fun a hF=>og hF (aq hF.o ao aa (aO (bT (c:=false) (aJ (by omega))) (by simp))) 1 rfl rfl rfl fun a hF=>oV hF (aQ hF.q hF.o) rfl fun a hF=>E.nil<|wp_cond_false hF.o<|wp_skip<|E.norm<|wp_seq<|wq ?_
   refine oM hF 14 rfl rfl fun a hF=>oT hF 0 (db (c:=true) (aI (by decide))) rfl rfl fun a hF=>E.nil<|wp_cond_true hF.o<|wq<|oM hF 26 rfl rfl fun a hF=>oM hF 37 rfl rfl fun a hF=>oL hF st 29 0 be rfl rfl rfl rfl fun a hF=>?_
   refine E.call hF (rgc k49 (fB hF.q hF.p ao hF.o)) (yX y m false pa pb pc pd _ (hT.below st.bel) (by first|assumption|constructor<;>omega) (by omega) (by omega) (by omega) (by omega) (fun _ c e=>absurd e (NJ hN0 c))) rfl rfl rfl rfl ?_
   rintro e w7 ⟨ad8,cap9,rfl,bb⟩
   refine⟨_,rfl,?_⟩
   intro a hF
   replace st:=st.to bb
   clear bb
   refine oM hF 0 rfl rfl fun a hF=>oV hF (aH (v:= .slice ad8 0 cap9) hF.o rfl) rfl fun a hF=>oV hF (aH (v:= iv 3) hF.p rfl) rfl fun a hF=>oA hF 1 rfl rfl fun a hF=>oA hF 1 rfl rfl fun a hF=>nq<|oM hF 25 rfl rfl fun a hF=>oT hF 0 (aV (c:=true) (aI (by decide))) rfl rfl fun a hF=>oM hF 0 rfl rfl fun a hF=>og hF (aD (hF.at 29 rfl)) 0 rfl rfl rfl fun a hF=>og hF (aq hF.o ao aa (aO (aV (c:=true) (aI (by decide))) (by simp))) 1 rfl rfl rfl fun a hF=>oV hF (aK hF.q hF.o) rfl fun a hF=>oM hF 0 rfl rfl fun a hF=>?_
   refine og hF (aD (hF.at 8 rfl)) 0 rfl rfl rfl fun a hF=>og hF (aW (aG hF.o) ib) 1 rfl rfl rfl fun a hF=>og hF (aq hF.o ao aa (aO (aV (c:=true) (aI (by decide))) (by simp))) 2 rfl rfl rfl fun a hF=>oV hF (aK (hF.at 3 rfl) hF.o) rfl fun a hF=>oM hF 0 rfl rfl fun a hF=>og hF (aD (hF.at 12 rfl)) 0 rfl rfl rfl fun a hF=>og hF (aq hF.o ao aa (aO (aV (c:=true) (aI (by decide))) (by simp))) 1 rfl rfl rfl fun a hF=>?_
   refine oV hF (aK hF.q hF.o) rfl fun a hF=>oE hF 0 rfl rfl fun a hF=>nr ?_
   have bel:=st.bel
   refine rt Tryz.results13 hF 0 rfl ?_
   exact⟨rfl,bel⟩
  ·obtain⟨L,hcL,hsL,hlL⟩:=uu hN0
   obtain⟨nb,hnb⟩:∃z:Int,feV pa pb pc pd (30*aP (L+1)+(x-1))=z:=⟨_,rfl⟩
   have hwL:=fw hsL
   have hfL:=kM (y:=y) (m:=m) (by omega) (by omega) (by omega) (by omega)
   have hbL:=pf hok hcL (x:=x) (by omega) (by omega)
   have hdL:=gJ hok hcL
   have hnL:=fj hok hcL
   rw[hnb] at hbL
   obtain⟨B,hB⟩:∃z:Int,beV pa pb pc pd L=z:=⟨_,rfl⟩
   obtain⟨N,hN⟩:∃N:Nat,beV pa pb pc pd (aw L)-B=((N:Nat):Int):=⟨(beV pa pb pc pd (aw L)-B).toNat,by omega⟩
   rw[hB] at hdL hbL hnL
   have st:=St.start w
   refine E.enter (nt:=110) (L:=[(0,iv y0),(1,iv m),(2,iv x),(3,.agg #[iv wa,iv wb,iv wc,iv wd])]) Tryz.func13 rfl rfl rfl (aC (i:=0) rfl (aC (i:=1) rfl (aC (i:=2) rfl (aC (i:=3) rfl cC)))) ?_
   intro a hF
   refine wq<|bx st hF 3 rfl rfl fun g7 w1 a st hF=>?_
   refine oC hF rfl fun a hF=>ns<|wq<|cX st hF (rgc k38 fR) (iE _ (hT.below st.bel)) rfl fun w2 a st hF=>oV hF (dF hF.o (cO _ false rfl)) rfl fun a hF=>E.nil<|wp_cond_false hF.o<|wp_skip<|E.norm<|wq<|oM hF 4 rfl rfl fun a hF=>oV hF (aq hF.o ao aa (iq (by decide) hy)) rfl fun a hF=>oL hF st 5 0 oH rfl rfl rfl rfl fun a hF=>?_
   refine cX st hF (rgc k17 (aG hF.o)) (kP _ hpa hpb hpc hpd) rfl fun w3 a st hF=>S.alloc st hF be rfl rfl fun g9 w4 a st hF=>oE hF 3 rfl rfl fun a hF=>S.stoI st hF 0 rfl hF.p hF.q be rfl rfl rfl fun w5 a st hF=>nq<|oM hF 0 rfl rfl fun a hF=>oM hF 11 rfl rfl fun a hF=>oM hF 13 rfl rfl fun a hF=>oL hF st 4 0 be rfl rfl rfl rfl fun a hF=>?_
   refine cX st hF (rgc k51 (fB (hF.at 3 rfl) hF.q hF.p hF.o)) (gE y m x pa pb pc pd _ (hT.below st.bel) (by first|assumption|constructor<;>omega) (by omega) (by omega) (by omega) (by omega) (by omega) (by omega) L nb hcL hsL hlL hnb (by omega) (by omega)) rfl fun w6 a st hF=>?_
   refine oM hF 0 rfl rfl fun a hF=>oV hF (aH (v:= iv nb) hF.o rfl) rfl fun a hF=>oV hF (aH (v:= iv 0) hF.p rfl) rfl fun a hF=>oA hF 1 rfl rfl fun a hF=>oA hF 1 rfl rfl fun a hF=>ns<|wq<|oM hF 20 rfl rfl fun a hF=>oT hF 0 (aY (c:=false) (aJ (by omega))) rfl rfl fun a hF=>oM hF 0 rfl rfl fun a hF=>og hF (aD (hF.at 23 rfl)) 0 rfl rfl rfl fun a hF=>og hF (aq hF.o ao aa (aO (bT (c:=false) (aJ (by omega))) (by simp))) 1 rfl rfl rfl fun a hF=>oV hF (aQ hF.q hF.o) rfl fun a hF=>oM hF 0 rfl rfl fun a hF=>?_
   refine og hF (aD (hF.at 28 rfl)) 0 rfl rfl rfl fun a hF=>og hF (aq hF.o ao aa (aO (aY (c:=false) (aJ (by omega))) (by simp))) 1 rfl rfl rfl fun a hF=>oV hF (aQ hF.q hF.o) rfl fun a hF=>oM hF 0 rfl rfl fun a hF=>og hF (aD (hF.at 32 rfl)) 0 rfl rfl rfl fun a hF=>og hF (aq hF.o ao aa (aO (bT (c:=false) (aJ (by omega))) (by simp))) 1 rfl rfl rfl fun a hF=>oV hF (aQ hF.q hF.o) rfl fun a hF=>E.nil<|wp_cond_false hF.o<|wp_skip<|E.norm<|wp_seq<|wq ?_
   refine oM hF 14 rfl rfl fun a hF=>oT hF 0 (db (c:=false) (aJ (by decide))) rfl rfl fun a hF=>E.nil<|wp_cond_false hF.o<|wp_skip<|E.norm<|wq<|oM hF 26 rfl rfl fun a hF=>oM hF 37 rfl rfl fun a hF=>oL hF st 29 0 be rfl rfl rfl rfl fun a hF=>?_
   refine E.call hF (rgc k49 (fB hF.q hF.p ao hF.o)) (sT y m false pa pb pc pd _ (hT.below st.bel) (by first|assumption|constructor<;>omega) (by omega) (by omega) (by omega) (by omega) L B N hcL hsL (decide_eq_false hlL) hB hN) rfl rfl rfl rfl ?_
   rintro e w7 ⟨_,cap,rfl,hia,bb⟩
   refine⟨_,rfl,?_⟩
   intro a hF
   obtain⟨gr,more,rfl,_,hge,hbk⟩:=hia.row (by omega)
   replace st:=(st.to bb).push hbk (Nat.le_trans st.bel.size hge) (st.ne hge)
   clear hia bb hbk hge
   refine oM hF 0 rfl rfl fun a hF=>oV hF (aH (v:= .slice (some ⟨gr,0,none⟩) N cap) hF.o rfl) rfl fun a hF=>oV hF (aH (v:= iv 0) hF.p rfl) rfl fun a hF=>oA hF 1 rfl rfl fun a hF=>oA hF 1 rfl rfl fun a hF=>ns<|wq<|oM hF 0 rfl rfl fun a hF=>oT hF 0 (db (c:=false) (aJ (by decide))) rfl rfl fun a hF=>E.nil<|wp_cond_false hF.o<|wp_skip<|E.norm ?_
   refine wp_seq<|wq<|oM hF 3 rfl rfl fun a hF=>oV hF (aW (aG hF.o) ib) rfl fun a hF=>oV hF (aD ao) rfl fun a hF=>E.nil<|wp_block ?_
   refine E.loop (fun mq a wv=>∃(i:Nat),i<=N/\B+((i:Nat):Int)<=nb/\Fr 110 a [(87,iv ((i:Nat):Int)),(86,iv ((N:Nat):Int)),(85,.slice (some ⟨gr,0,none⟩) N cap),(14,.slice (some ⟨gr,0,none⟩) N cap),(80,.tuple #[.slice (some ⟨gr,0,none⟩) N cap,iv 0]),(10,iv nb),(2,iv x)]/\St w wv [(gr,dyF pa pb pc pd B N++more)] []/\mq=N-i) ((N-0)) ?_ ?_
   ·exact⟨0,(by omega),(by omega),Fr.pick (L':=[(87,iv 0),(86,iv ((N:Nat):Int)),(85,.slice (some ⟨gr,0,none⟩) N cap),(14,.slice (some ⟨gr,0,none⟩) N cap),(80,.tuple #[.slice (some ⟨gr,0,none⟩) N cap,iv 0]),(10,iv nb),(2,iv x)]) hF [0,1,2,6,10,31,51] rfl,st.pick [0] [] rfl rfl (by decide),rfl⟩
   ·rintro mq a w8 ⟨i,hi2,hin,hF,st,hm⟩
    by_cases hlt:i<N
    ·have hbd:=Gz hok hcL (t:=B+((i:Nat):Int)) x (by omega) (by omega)
     rw[hnb] at hbd
     refine wq ?_
     refine oU hF 0 1 (aY (c:=true) (aI (by omega))) rfl rfl rfl fun a hF=>ns<|wp_cond_true hF.o<|wp_skip<|E.norm<|wp_seq<|wp_block<|wq<|oV hF (bS (hF.at 3 rfl) hF.p (fG (i:=i) (by omega) (by omega))) rfl fun a hF=>oV hF (ar hF.o (rT (vs:=[iv (B+((i:Nat):Int)),iv (amX (B+((i:Nat):Int)) pa pb pc pd%30+1),.bool (decide (amX (B+((i:Nat):Int)-1) pa pb pc pd=amX (B+((i:Nat):Int)) pa pb pc pd))]) (st.bk 0 rfl) (uq _ _ _ _ _ more (k:=N) (i:=i) (by omega)) rfl)) rfl fun a hF=>S.new st hF 0 rfl qS rfl rfl rfl rfl rfl fun g17 w9 a st hF=>nq ?_
     refine oV hF (az hF.o (jA (p:=1) rfl)) rfl fun a hF=>oV hF (ar hF.o (bQ (v:= iv (amX (B+((i:Nat):Int)) pa pb pc pd%30+1)) (st.bk 0 rfl) rfl)) rfl fun a hF=>oM hF 12 rfl rfl fun a hF=>?_
     by_cases hc10:x<=amX (B+((i:Nat):Int)) pa pb pc pd%30+1
     ·refine oU hF 1 0 (dI (c:=true) (aI (by omega))) rfl rfl rfl fun a hF=>E.nil<|wp_cond_true hF.o<|wq ?_
      refine oM hF 13 rfl rfl fun a hF=>oV hF (az (hF.at 5 rfl) (fJ (p:=0) rfl)) rfl fun a hF=>oV hF (ar hF.o (bl (v:= iv (B+((i:Nat):Int))) (st.bk 0 rfl) rfl)) rfl fun a hF=>oU hF 2 0 (aV (c:=true) (aI (by omega))) rfl rfl rfl fun a hF=>oA hF 0 rfl rfl fun a hF=>nr ?_
      have bel:=st.bel
      refine rt Tryz.results13 hF 0 rfl ?_
      exact⟨rfl,bel⟩
     ·refine oU hF 1 0 (dI (c:=false) (aJ (by omega))) rfl rfl rfl fun a hF=>E.nil<|wp_cond_false hF.o<|wp_skip<|E.blk<|E.norm<|E.seq<|oV hF (aq (hF.at 8 rfl) ao aa (aX (by omega) (by omega))) rfl fun a hF=>oS hF (aD hF.o) rfl fun a hF=>E.nil0<|E.norm ?_
      replace hF:Fr 110 a [(87,iv ((i+1:Nat):Int)),(99,iv (((i:Nat):Int)+1)),(94,.bool false),(93,iv x),(92,iv (amX (B+((i:Nat):Int)) pa pb pc pd%30+1)),(91,.pointer (some ⟨g17,1,none⟩)),(17,.pointer (some ⟨g17,0,none⟩)),(90,.agg #[iv (B+((i:Nat):Int)),iv (amX (B+((i:Nat):Int)) pa pb pc pd%30+1),.bool (decide (amX (B+((i:Nat):Int)-1) pa pb pc pd=amX (B+((i:Nat):Int)) pa pb pc pd))]),(89,.pointer (some ⟨gr,3*i,none⟩)),(88,.bool true),(86,iv ((N:Nat):Int)),(85,.slice (some ⟨gr,0,none⟩) N cap),(14,.slice (some ⟨gr,0,none⟩) N cap),(80,.tuple #[.slice (some ⟨gr,0,none⟩) N cap,iv 0]),(10,iv nb),(2,iv x)]:=by rw[show((i+1:Nat):Int)=((i:Nat):Int)+1 from by omega];exact hF
      exact⟨(N-(i+1)),by omega,⟨(i+1),(by omega),(by omega),Fr.pick (L':=[(87,iv ((i+1:Nat):Int)),(86,iv ((N:Nat):Int)),(85,.slice (some ⟨gr,0,none⟩) N cap),(14,.slice (some ⟨gr,0,none⟩) N cap),(80,.tuple #[.slice (some ⟨gr,0,none⟩) N cap,iv 0]),(10,iv nb),(2,iv x)]) hF [0,10,11,12,13,14,15] rfl,st.pick [1] [] rfl rfl (by decide),rfl⟩⟩
    ·refine wp_seq<|E.seq ?_
     refine oU hF 0 1 (aY (c:=false) (aJ (by omega))) rfl rfl rfl fun a hF=>ns<|wp_cond_false hF.o<|wp_exit<|E.past<|E.past<|E.out (id:=0)<|E.norm<|wq<|oM hF 6 rfl rfl fun a hF=>oM hF 5 rfl rfl fun a hF=>oM hF 6 rfl rfl fun a hF=>oV hF (aW (aG hF.o) ib) rfl fun a hF=>oV hF (aq hF.o ao aa (bB (by omega) (by omega))) rfl fun a hF=>oV hF (bS (hF.at 3 rfl) hF.o (fG (i:=(N-1)) (by omega) (by omega))) rfl fun a hF=>oV hF (az hF.o (fJ (p:=(3*(N-1)+0)) rfl)) rfl fun a hF=>?_
     refine oV hF (ar hF.o (bl (v:= iv (B+(((N-1):Nat):Int))) (st.bk 0 rfl) ((ia _ _ _ _ _ more (k:=N) (i:=(N-1)) (j:=0) (by omega) (by decide)).trans rfl))) rfl fun a hF=>oV hF (aq hF.o ao aa (aX (by omega) (by omega))) rfl fun a hF=>oU hF 8 0 (aV (c:=true) (aI (by omega))) rfl rfl rfl fun a hF=>oA hF 0 rfl rfl fun a hF=>nr ?_
     have bel:=st.bel
     refine rt Tryz.results13 hF 0 rfl ?_
     exact⟨rfl,bel⟩
end Go.Proofs.YtgdpkknapcgcbaaGreatDoor
