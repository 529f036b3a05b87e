import Derived.Test.YtddiipaomejcfaaGreatDoorKB16
namespace Go.Proofs.YtddiipaomejcfaaGreatDoor
open Go.RowKit
set_option maxRecDepth 100000
set_option linter.unusedVariables false
set_option maxHeartbeats 8000000
section
section
theorem CE {k:Nat} (h:1<=k):Lim (0:Int).natAbs k:=Nat.lt_of_lt_of_le (by decide:0<B32^1) (Nat.pow_le_pow_right a6 h)
theorem l7 (v1 v2:Value) (z1 z2:Int) (k:Nat) (w:World) (h1:Rz w v1 z1) (h2:Rz w v2 z2) (l1:Lim z1.natAbs k) (l2:Lim z2.natAbs k) (hk1:1<=k):
 CP 96 #[v1,v2] w (bI w ((z1:Rat)/(z2:Rat)) k):=by
 obtain⟨b1,ad1,n1,c1,rfl⟩:=h1.form
 have ha1:=h1.abs
 have hb1:=h1.neg
 obtain⟨b2,ad2,n2,c2,rfl⟩:=h2.form
 have ha2:=h2.abs
 have hb2:=h2.neg
 by_cases e1:z1=0
 ·have hq:=Lib.hid (show(z1:Rat)/(z2:Rat)=0 by rw[e1,Rat.intCast_zero,Rat.div_def,Rat.zero_mul])
  have hm1:n1=0:=Dg.len0 (by rw[e1] at ha1;exact ha1)
  clear e1 hb1 hb2
  refine gs2 (nt:=29) Tryz.func96 rfl rfl rfl fun a st hF=>wq<|bx st hF 0 rfl rfl fun g2 w1 a st hF=>bx st hF 2 rfl rfl fun g3 w2 a st hF=>S.alloc st hF ah rfl rfl fun g4 w3 a st hF=>ns<|wq<|oV hF (az hF.q (bJ (p:=1) rfl)) rfl fun a hF=>oV hF (av hF.o (bP (v:= .slice ad1 n1 c1) (st.b 2 rfl rfl) rfl)) rfl fun a hF=>oV hF (aW (aD hF.o) iP) rfl fun a hF=>oT hF 0 (aQ (c:=true) (eq0 (by rw[hm1];rfl))) rfl rfl fun a hF=>oM hF 0 rfl rfl fun a hF=>nu hF 0 rfl rfl rfl fun a hF=>nu hF 1 rfl rfl rfl fun a hF=>?_
  refine nu hF 2 rfl rfl rfl fun a hF=>nu hF 3 rfl rfl rfl fun a hF=>oV hF (aH (hF.at 4 rfl) ao) rfl fun a hF=>E.nil<|wp_cond_true hF.o<|wq<|oV hF (be (by simp) (mR _)) rfl fun a hF=>?_
  obtain⟨vv4,w5,hr,bb,hh6⟩:=vC w3
  refine oV hF (bQ (eZ ao) hr) rfl fun a hF=>?_
  replace st:=(st.to bb).add hh6 (Dg.cl _)
  clear hr bb hh6
  obtain⟨ad7,n7,c7,rfl⟩:=Dg.form (st.f 0 rfl)
  refine oV hF (be (eX hF.p hF.o) (iE _ _ _ _ _ _ _ _)) rfl fun a hF=>so st hF 0 13 0 ah rfl rfl rfl rfl fun w8 a st hF=>nr<|rs Tryz.results96 st hF 13 0 ah rfl rfl rfl ?_
  exact⟨_,rfl,Rr.mk (Rz.zero _) (st.f 0 rfl) (by omega) (hq.out.trans (Rat.zero_mkRat 1).symm) (CE hk1) (Lim.one hk1),st.bel⟩
 ·by_cases e2:z2=0
  ·have hq:=Lib.hid (show(z1:Rat)/(z2:Rat)=0 by rw[e2,Rat.intCast_zero,Rat.div_def,Rat.inv_zero,Rat.mul_zero])
   have hm1:=Dg.lenp (by decide) ha1 (by omega)
   have hm2:n2=0:=Dg.len0 (by rw[e2] at ha2;exact ha2)
   clear e1 e2 hb1 hb2
   refine gs2 (nt:=29) Tryz.func96 rfl rfl rfl fun a st hF=>wq<|bx st hF 0 rfl rfl fun g2 w1 a st hF=>bx st hF 2 rfl rfl fun g3 w2 a st hF=>S.alloc st hF ah rfl rfl fun g4 w3 a st hF=>ns<|wq<|oV hF (az hF.q (bJ (p:=1) rfl)) rfl fun a hF=>oV hF (av hF.o (bP (v:= .slice ad1 n1 c1) (st.b 2 rfl rfl) rfl)) rfl fun a hF=>oV hF (aW (aD hF.o) iP) rfl fun a hF=>oT hF 0 (aQ (c:=false) (nN (by omega))) rfl rfl fun a hF=>oM hF 0 rfl rfl fun a hF=>og hF (az (hF.at 6 rfl) (bJ (p:=1) rfl)) 0 rfl rfl rfl fun a hF=>og hF (av hF.o (bP (v:= .slice ad2 n2 c2) (st.b 1 rfl rfl) rfl)) 1 rfl rfl rfl fun a hF=>?_
   refine og hF (aW (aD hF.o) iP) 2 rfl rfl rfl fun a hF=>og hF (aq hF.o ao aa (aI (aQ (c:=true) (eq0 (by rw[hm2];rfl))) (by simp))) 3 rfl rfl rfl fun a hF=>oV hF (aJ (hF.at 4 rfl) hF.o) rfl fun a hF=>E.nil<|wp_cond_true hF.o<|wq<|oV hF (be (by simp) (mR _)) rfl fun a hF=>?_
   obtain⟨vv4,w5,hr,bb,hh6⟩:=vC w3
   refine oV hF (bQ (eZ ao) hr) rfl fun a hF=>?_
   replace st:=(st.to bb).add hh6 (Dg.cl _)
   clear hr bb hh6
   obtain⟨ad7,n7,c7,rfl⟩:=Dg.form (st.f 0 rfl)
   refine oV hF (be (eX hF.p hF.o) (iE _ _ _ _ _ _ _ _)) rfl fun a hF=>so st hF 0 13 0 ah rfl rfl rfl rfl fun w8 a st hF=>nr<|rs Tryz.results96 st hF 13 0 ah rfl rfl rfl ?_
   exact⟨_,rfl,Rr.mk (Rz.zero _) (st.f 0 rfl) (by omega) (hq.out.trans (Rat.zero_mkRat 1).symm) (CE hk1) (Lim.one hk1),st.bel⟩
  ·have hq:=Lib.hid (show(z1:Rat)/(z2:Rat)=mkRat (sg (b1 !=b2) (Int.natAbs z1)) (Int.natAbs z2) by rw[hb1,hb2];exact(LG z1 z2 e2).symm)
   have hm1:=Dg.lenp (by decide) ha1 (by omega)
   have hm2:=Dg.lenp (by decide) ha2 (by omega)
   have hD:0<Int.natAbs z2:=by omega
   clear e1 e2 hb1 hb2
   refine gs2 (nt:=29) Tryz.func96 rfl rfl rfl fun a st hF=>wq<|bx st hF 0 rfl rfl fun g2 w1 a st hF=>bx st hF 2 rfl rfl fun g3 w2 a st hF=>S.alloc st hF ah rfl rfl fun g4 w3 a st hF=>ns<|wq<|oV hF (az hF.q (bJ (p:=1) rfl)) rfl fun a hF=>oV hF (av hF.o (bP (v:= .slice ad1 n1 c1) (st.b 2 rfl rfl) rfl)) rfl fun a hF=>oV hF (aW (aD hF.o) iP) rfl fun a hF=>oT hF 0 (aQ (c:=false) (nN (by omega))) rfl rfl fun a hF=>oM hF 0 rfl rfl fun a hF=>og hF (az (hF.at 6 rfl) (bJ (p:=1) rfl)) 0 rfl rfl rfl fun a hF=>og hF (av hF.o (bP (v:= .slice ad2 n2 c2) (st.b 1 rfl rfl) rfl)) 1 rfl rfl rfl fun a hF=>?_
   refine og hF (aW (aD hF.o) iP) 2 rfl rfl rfl fun a hF=>og hF (aq hF.o ao aa (aI (aQ (c:=false) (nN (by omega))) (by simp))) 3 rfl rfl rfl fun a hF=>oV hF (aJ (hF.at 4 rfl) hF.o) rfl fun a hF=>E.nil<|wp_cond_false hF.o<|wp_skip<|E.norm<|wp_seq ?_
   refine E.drawn 11 aG hF [18,19,20,21,22,23,24,25,26,27,28] [(fun _ v=>v= .pointer (some ⟨g2,0,none⟩)),(fun _ v=>v= .bool b1),(fun _ v=>v= .pointer (some ⟨g3,0,none⟩)),(fun _ v=>v= .bool b2),(fun _ v=>v= .bool (b1 !=b2)),(fun _ v=>v= .pointer (some ⟨g2,1,none⟩)),(fun _ v=>v= .slice ad1 n1 c1),(fun w v=>Rz w v (sg ((b1 !=b2)) (Int.natAbs (z1)))),(fun _ v=>v= .pointer (some ⟨g3,1,none⟩)),(fun _ v=>v= .slice ad2 n2 c2),(fun w v=>Rr w v ((z1:Rat)/(z2:Rat)) (k))] [] (by decide+kernel) (by decide+kernel) rfl rfl rfl ⟨(Mb.eq _),(Mb.eq _),(Mb.eq _),(Mb.eq _),(Mb.eq _),(Mb.eq _),(Mb.eq _),(fun _ _ _ h hb=>h.below hb),(Mb.eq _),(Mb.eq _),(fun _ _ _ h hb=>h.below hb),trivial⟩ trivial ⟨?_,?_,?_,?_,?_,?_,?_,?_,?_,?_,?_,trivial⟩ ?_
   ·intro a' w' hF' hb hd
    exact dv0 (az (hF'.at 12 rfl) (dC (p:=0) rfl)) rfl rfl rfl
   ·intro a' w' hF' hb hd
    have e18:=tE hd 0 rfl
    exact dv0 (av e18 (bF (v:= .bool b1) ((st.b 2 rfl rfl).below hb) rfl)) rfl rfl rfl
   ·intro a' w' hF' hb hd
    exact dv0 (az (hF'.at 11 rfl) (dC (p:=0) rfl)) rfl rfl rfl
   ·intro a' w' hF' hb hd
    have e20:=tE hd 0 rfl
    exact dv0 (av e20 (bF (v:= .bool b2) ((st.b 1 rfl rfl).below hb) rfl)) rfl rfl rfl
   ·intro a' w' hF' hb hd
    have e19:=tE hd 0 rfl
    have e21:=tE hd 1 rfl
    exact dv0 (aq e19 e21 cy (dI (d:=(b1 !=b2)) rfl)) rfl rfl rfl
   ·intro a' w' hF' hb hd
    exact dv0 (az (hF'.at 12 rfl) (bJ (p:=1) rfl)) rfl rfl rfl
   ·intro a' w' hF' hb hd
    have e23:=tE hd 0 rfl
    exact dv0 (av e23 (bP (v:= .slice ad1 n1 c1) ((st.b 2 rfl rfl).below hb) rfl)) rfl rfl rfl
   ·intro a' w' hF' hb hd
    have e22:=tE hd 0 rfl
    have e24:=tE hd 1 rfl
    exact dc0 (rk Mr (aF e22 e24)) (eJ _ _ (Int.natAbs (z1)) _ (ha1.below (aC st.bel hb))) rfl rfl
   ·intro a' w' hF' hb hd
    exact dv0 (az (hF'.at 11 rfl) (bJ (p:=1) rfl)) rfl rfl rfl
   ·intro a' w' hF' hb hd
    have e26:=tE hd 0 rfl
    exact dv0 (av e26 (bP (v:= .slice ad2 n2 c2) ((st.b 1 rfl rfl).below hb) rfl)) rfl rfl rfl
   ·intro a' w' hF' hb hd
    obtain⟨v25_0,e25,h25_1⟩:=tH hd 0 rfl
    have e27:=tE hd 1 rfl
    obtain⟨b4,ad4,n4,c4,rfl⟩:=Rz.form h25_1
    exact dv0 (be (eX e25 e27) (iE _ _ _ _ _ _ _ _)) (Rr.mk h25_1 (ha2.below (aC st.bel hb)) hD hq.out (jL _ l1) l2) rfl rfl
   intro a w5 hF bb hall hne
   replace st:=st.to bb
   obtain⟨vv6,hF,st⟩:=aS hall hF st 10 rfl rfl Rr.cl
   clear hall hne bb
   obtain⟨r8,rfl⟩:=Rr.fo (st.f 0 rfl)
   refine so st hF 0 11 0 ah rfl rfl rfl rfl fun w9 a st hF=>nr<|rs Tryz.results96 st hF 11 0 ah rfl rfl rfl ?_
   exact⟨_,rfl,(st.f 0 rfl),st.bel⟩
theorem kI (v1:Value) (q1:Rat) (k:Nat) (w:World) (h1:Rr w v1 q1 k):
 CP 138 #[v1] w (bI w (-q1) k):=by
 obtain⟨b1,ad1,n1,c1,ae1,m1,d1,z1,D1,rfl,hn1,hd1,hD1,hq1,lz1,lD1⟩:=h1.shape
 have ha1:=hn1.abs
 have hb1:=hn1.neg
 replace hq1:=Lib.hid hq1
 refine gs1 (nt:=9) Tryz.func138 rfl rfl rfl fun a st hF=>wq<|bx st hF 0 rfl rfl fun g1 w1 a st hF=>S.alloc st hF ah rfl rfl fun g2 w2 a st hF=>ns ?_
 refine E.drawn 6 aG hF [3,4,5,6,7,8] [(fun _ v=>v= .pointer (some ⟨g1,0,none⟩)),(fun _ v=>v= .agg #[.bool b1,.slice ad1 n1 c1]),(fun w v=>Rz w v (-(z1))),(fun _ v=>v= .pointer (some ⟨g1,2,none⟩)),(fun _ v=>v= .slice ae1 m1 d1),(fun w v=>Rr w v (-q1) (k))] [] (by decide+kernel) (by decide+kernel) rfl rfl rfl ⟨(Mb.eq _),(Mb.eq _),(fun _ _ _ h hb=>h.below hb),(Mb.eq _),(Mb.eq _),(fun _ _ _ h hb=>h.below hb),trivial⟩ trivial ⟨?_,?_,?_,?_,?_,?_,trivial⟩ ?_
 ·intro a' w' hF' hb hd
  exact dv0 (az (hF'.at 1 rfl) (d8 (p:=0) rfl)) rfl rfl rfl
 ·intro a' w' hF' hb hd
  have e3:=tE hd 0 rfl
  exact dv0 (av e3 (fQ (vs:=[.bool b1,.slice ad1 n1 c1]) ((st.b 1 rfl rfl).below hb) rfl rfl)) rfl rfl rfl
 ·intro a' w' hF' hb hd
  have e4:=tE hd 0 rfl
  exact dc0 (rk ML (aD e4)) (jl _ _ _ (hn1.below (aC st.bel hb))) rfl rfl
 ·intro a' w' hF' hb hd
  exact dv0 (az (hF'.at 1 rfl) (eK (p:=2) rfl)) rfl rfl rfl
 ·intro a' w' hF' hb hd
  have e6:=tE hd 0 rfl
  exact dv0 (av e6 (bP (v:= .slice ae1 m1 d1) ((st.b 1 rfl rfl).below hb) rfl)) rfl rfl rfl
 ·intro a' w' hF' hb hd
  obtain⟨v5_0,e5,h5_1⟩:=tH hd 0 rfl
  have e7:=tE hd 1 rfl
  obtain⟨b3,ad3,n3,c3,rfl⟩:=Rz.form h5_1
  exact dv0 (be (eX e5 e7) (iE _ _ _ _ _ _ _ _)) (Rr.mk h5_1 (hd1.below (aC st.bel hb)) hD1 (by rw[hq1.out,Rat.neg_mkRat]) (jk lz1) lD1) rfl rfl
 intro a w4 hF bb hall hne
 replace st:=st.to bb
 obtain⟨vv5,hF,st⟩:=aS hall hF st 5 rfl rfl Rr.cl
 clear hall hne bb
 obtain⟨r7,rfl⟩:=Rr.fo (st.f 0 rfl)
 refine so st hF 0 1 0 ah rfl rfl rfl rfl fun w8 a st hF=>nr<|rs Tryz.results138 st hF 1 0 ah rfl rfl rfl ?_
 exact⟨_,rfl,(st.f 0 rfl),st.bel⟩
theorem gH (v1:Value) (q1:Rat) (k:Nat) (w:World) (h1:Rr w v1 q1 k):
 CP 174 #[v1] w (iC w (sz q1.num)):=by
 obtain⟨b1,ad1,n1,c1,ae1,m1,d1,z1,D1,rfl,hn1,hd1,hD1,hq1,lz1,lD1⟩:=h1.shape
 have ha1:=hn1.abs
 have hb1:=hn1.neg
 replace hq1:=Lib.hid hq1
 refine gs1 (nt:=6) Tryz.func174 rfl rfl rfl fun a st hF=>wq<|bx st hF 0 rfl rfl fun g1 w1 a st hF=>?_
 refine oC hF rfl fun a hF=>nq<|oV hF (az hF.p (d8 (p:=0) rfl)) rfl fun a hF=>oV hF (av hF.o (fQ (vs:=[.bool b1,.slice ad1 n1 c1]) (st.b 0 rfl rfl) rfl rfl)) rfl fun a hF=>cX st hF (rgc s5 (aD hF.o)) (ix _ _ _ (hn1.below st.bel)) rfl fun w2 a st hF=>?_
 refine oE hF 0 rfl rfl fun a hF=>nr ?_
 have bel:=st.bel
 refine rt Tryz.results174 hF 0 rfl ?_
 exact⟨by rw[hq1.out,<-MP hD1],bel⟩
theorem Cg {z:Int}:sz z<0↔z<0:=by unfold sz;split <;> (try split) <;> omega
theorem Ab {q:Rat} (h:sz q.num<0): -q=Rat.abs q:=by
 have h1:=Cg.1 h
 rw[Rat.abs_of_nonpos]
 exact Rat.not_lt.1 (fun h2=>by have:=Rat.num_nonneg.2 (Rat.le_of_lt h2);omega)
theorem AR {q:Rat} (h:¬sz q.num<0):q=Rat.abs q:=by
 have h1:0<=q.num:=by
  rcases Int.lt_or_le q.num 0 with e|e
  ·exact absurd (Cg.2 e) h
  ·exact e
 rw[Rat.abs_of_nonneg (Rat.num_nonneg.1 h1)]
theorem mB (v1:Value) (q1:Rat) (k:Nat) (w:World) (h1:Rr w v1 q1 k):
 CP 190 #[v1] w (bI w (Rat.abs q1) k):=by
 obtain⟨b1,ad1,n1,c1,ae1,m1,d1,z1,D1,rfl,hn1,hd1,hD1,hq1,lz1,lD1⟩:=h1.shape
 have ha1:=hn1.abs
 have hb1:=hn1.neg
 replace hq1:=Lib.hid hq1
 by_cases hs:sz (Rat.num (q1))<0
 ·have HA:=Lib.hid (Ab hs)
  refine gs1 (nt:=9) Tryz.func190 rfl rfl rfl fun a st hF=>wq<|bx st hF 0 rfl rfl fun g1 w1 a st hF=>S.alloc st hF ah rfl rfl fun g2 w2 a st hF=>ns<|wq<|oL hF st 1 1 ah rfl rfl rfl rfl fun a hF=>cX st hF (rgc oi (aD hF.o)) (gH _ (q1) k _ (h1.below st.bel)) rfl fun w3 a st hF=>oT hF 0 (a9 (c:=true) (M5 hs)) rfl rfl fun a hF=>?_
  refine E.nil<|wp_cond_true hF.o<|wq<|oL hF st 4 1 ah rfl rfl rfl rfl fun a hF=>?_
  refine ca st hF (rgc wF (aD hF.o)) (kI _ (q1) k _ (h1.below st.bel)) (fun _ _ h=>h) Rr.cl rfl fun vv5 w4 a st hF=>?_
  obtain⟨r7,rfl⟩:=Rr.fo (st.f 0 rfl)
  refine so st hF 0 5 0 ah rfl rfl rfl rfl fun w8 a st hF=>nr<|rs Tryz.results190 st hF 5 0 ah rfl rfl rfl ?_
  exact⟨_,rfl,Rr.cast (st.f 0 rfl) HA.out,st.bel⟩
 ·have HA:=Lib.hid (AR hs)
  refine gs1 (nt:=9) Tryz.func190 rfl rfl rfl fun a st hF=>wq<|bx st hF 0 rfl rfl fun g1 w1 a st hF=>S.alloc st hF ah rfl rfl fun g2 w2 a st hF=>ns<|wq<|oL hF st 1 1 ah rfl rfl rfl rfl fun a hF=>cX st hF (rgc oi (aD hF.o)) (gH _ (q1) k _ (h1.below st.bel)) rfl fun w3 a st hF=>oT hF 0 (a9 (c:=false) (Mv hs)) rfl rfl fun a hF=>?_
  refine E.nil<|wp_cond_false hF.o<|wp_skip<|E.norm<|wq<|oL hF st 4 1 ah rfl rfl rfl rfl fun a hF=>so st hF 0 4 0 ah rfl rfl rfl rfl fun w4 a st hF=>nr<|rs Tryz.results190 st hF 4 0 ah rfl rfl rfl ?_
  have bel:=st.bel
  have h1:=(h1.below st.bel)
  exact⟨_,rfl,Rr.cast h1 HA.out,bel⟩
theorem vL {n:Int} (h0: -9223372036854775808<n) (h1:n<=9223372036854775807):Lim n.natAbs 2:=Lim.of64 (by omega)
theorem j9 (n d:Int) (w:World) (b1: -9223372036854775808<n) (b2:n<=9223372036854775807) (b3: -9223372036854775808<d) (b4:d<=9223372036854775807):
 CP 55 #[iv n,iv d] w (bI w ((n:Rat)/(d:Rat)) 2):=by
 refine gs2 (nt:=10) Tryz.func55 rfl rfl rfl fun a st hF=>wq<|S.alloc st hF ah rfl rfl fun g4 w1 a st hF=>nq<|oM hF 1 rfl rfl fun a hF=>S.ck st hF (rgc k97 (aD hF.o)) (cn (ti n _ b1 b2) (vL b1 b2)) Zl.cl rfl fun vv3 w2 a st hF=>?_
 obtain⟨b5,ad5,n5,c5,rfl⟩:=Rz.form (st.f 0 rfl).1
 refine oM hF 4 rfl rfl fun a hF=>S.ck st hF (rgc k97 (aD hF.o)) (cn (ti d _ b3 b4) (vL b3 b4)) Zl.cl rfl fun vv7 w6 a st hF=>?_
 obtain⟨b9,ad9,n9,c9,rfl⟩:=Rz.form (st.f 0 rfl).1
 refine ca st hF (rgc k96 (aF hF.q hF.o)) (l7 _ _ (n) (d) 2 _ (st.f 1 rfl).1 (st.f 0 rfl).1 (Lim.up (st.f 1 rfl).2 _ (by omega)) (Lim.up (st.f 0 rfl).2 _ (by omega)) (by omega)) (fun _ _ h=>h) Rr.cl rfl fun vv11 w10 a st hF=>?_
 obtain⟨r13,rfl⟩:=Rr.fo (st.f 0 rfl)
 refine so st hF 0 5 0 ah rfl rfl rfl rfl fun w14 a st hF=>nr<|rs Tryz.results55 st hF 5 0 ah rfl rfl rfl ?_
 exact⟨_,rfl,(st.f 0 rfl),st.bel⟩
end
section
end
end
section
section
theorem CR (nega1:Bool) (aa1:Option Addr) (na1 ca1:Nat) (xa1:List Nat) (negb1:Bool) (ab1:Option Addr) (nb1 cb1:Nat) (xb1:List Nat) (m:Nat) (w:World) (ia1:InX w aa1 na1 ca1 xa1) (ib1:InX w ab1 nb1 cb1 xb1) (hm:m<=1000) (hm1:1<=m):
 CP 84 #[.agg #[.bool nega1,.slice aa1 na1 ca1,.bool negb1,.slice ab1 nb1 cb1],iv (m:Nat)] w (bI w ((iZ nega1 xa1 m:Rat)/(iZ negb1 xb1 m:Rat)) m):=by
 have oka1:=ia1.ok
 have okb1:=ib1.ok
 refine gs2 (nt:=14) Tryz.func84 rfl rfl rfl fun a st hF=>wq<|bx st hF 0 rfl rfl fun g2 w1 a st hF=>S.alloc st hF ah rfl rfl fun g4 w2 a st hF=>ns ?_
 refine E.drawn 9 aG hF [5,6,7,8,9,10,11,12,13] [(fun _ v=>v= .pointer (some ⟨g2,0,none⟩)),(fun _ v=>v= .agg #[.bool nega1,.slice aa1 na1 ca1]),(fun _ v=>v= iv ((m:Nat):Int)),(fun w v=>Rz w v (iZ nega1 xa1 m)),(fun _ v=>v= .pointer (some ⟨g2,2,none⟩)),(fun _ v=>v= .agg #[.bool negb1,.slice ab1 nb1 cb1]),(fun _ v=>v= iv ((m:Nat):Int)),(fun w v=>Rz w v (iZ negb1 xb1 m)),(fun w v=>Rr w v (((iZ nega1 xa1 m:Int):Rat)/((iZ negb1 xb1 m:Int):Rat)) (m))] [] (by decide+kernel) (by decide+kernel) rfl rfl rfl ⟨(Mb.eq _),(Mb.eq _),(Mb.eq _),(fun _ _ _ h hb=>h.below hb),(Mb.eq _),(Mb.eq _),(Mb.eq _),(fun _ _ _ h hb=>h.below hb),(fun _ _ _ h hb=>h.below hb),trivial⟩ trivial ⟨?_,?_,?_,?_,?_,?_,?_,?_,?_,trivial⟩ ?_
 ·intro a' w' hF' hb hd
  exact dv0 (az (hF'.at 1 rfl) (Cy (p:=0) rfl)) rfl rfl rfl
 ·intro a' w' hF' hb hd
  have e5:=tE hd 0 rfl
  exact dv0 (av e5 (Dn (vs:=[.bool nega1,.slice aa1 na1 ca1]) ((st.b 1 rfl rfl).below hb) rfl rfl)) rfl rfl rfl
 ·exact qM 3 rfl rfl rfl
 ·intro a' w' hF' hb hd
  have e6:=tE hd 0 rfl
  have e7:=tE hd 1 rfl
  exact dc0 (rk G8 (aF e6 e7)) (uS nega1 aa1 na1 ca1 m xa1 _ (ia1.below (aC st.bel hb)) (by omega)) rfl rfl
 ·intro a' w' hF' hb hd
  exact dv0 (az (hF'.at 1 rfl) (DI (p:=2) rfl)) rfl rfl rfl
 ·intro a' w' hF' hb hd
  have e9:=tE hd 0 rfl
  exact dv0 (av e9 (Dn (vs:=[.bool negb1,.slice ab1 nb1 cb1]) ((st.b 1 rfl rfl).below hb) rfl rfl)) rfl rfl rfl
 ·exact qM 3 rfl rfl rfl
 ·intro a' w' hF' hb hd
  have e10:=tE hd 0 rfl
  have e11:=tE hd 1 rfl
  exact dc0 (rk G8 (aF e10 e11)) (uS negb1 ab1 nb1 cb1 m xb1 _ (ib1.below (aC st.bel hb)) (by omega)) rfl rfl
 ·intro a' w' hF' hb hd
  obtain⟨v8_0,e8,h8_1⟩:=tH hd 0 rfl
  obtain⟨v12_0,e12,h12_1⟩:=tH hd 1 rfl
  exact dc0 (rk KZ (aF e8 e12)) (l7 _ _ (iZ nega1 xa1 m) (iZ negb1 xb1 m) m _ h8_1 h12_1 (Lim.up (ud nega1 oka1 m) _ (by omega)) (Lim.up (ud negb1 okb1 m) _ (by omega)) (by omega)) rfl rfl
 intro a w3 hF bb hall hne
 replace st:=st.to bb
 obtain⟨vv4,hF,st⟩:=aS hall hF st 8 rfl rfl Rr.cl
 clear hall hne bb
 obtain⟨r6,rfl⟩:=Rr.fo (st.f 0 rfl)
 refine so st hF 0 1 0 ah rfl rfl rfl rfl fun w7 a st hF=>nr<|rs Tryz.results84 st hF 1 0 ah rfl rfl rfl ?_
 exact⟨_,rfl,(st.f 0 rfl),st.bel⟩
end
section
end
section
theorem xp (a b:Rat):qc a b=if a<b then -1 else if b<a then 1 else 0:=by
 unfold qc ci
 simp only [<-Rat.lt_iff]
theorem lr (z:Int): -1<=sz z/\sz z<=1:=by unfold sz;split <;> (try split) <;> omega
theorem BD (q:Rat):sz q.num=if q<0 then -1 else if 0<q then 1 else 0:=by
 have h1:q<0↔q.num<0:=by rw[Rat.lt_iff];simp
 have h2:0<q↔0<q.num:=by rw[Rat.lt_iff];simp
 simp only [h1,h2]
 unfold sz
 split
 ·rename_i e;rw[e];simp
 ·split
  ·rfl
  ·rw[if_pos (by omega)]
theorem lC {a b:Int} (ha: -1<=a/\a<=1) (hb: -1<=b/\b<=1): -9223372036854775808<=a*b/\a*b<=9223372036854775807:=by
 obtain⟨a1,a2⟩:=ha
 obtain⟨b1,b2⟩:=hb
 have h:a= -1\/a=0\/a=1:=by omega
 rcases h with rfl|rfl|rfl <;> constructor <;> omega
end
end
theorem Cn {x:Int} {a:Nat} (y:Int) (h:Lim x.natAbs a):Lim (x.fdiv y).natAbs (a+1):=by
 refine Nat.lt_of_le_of_lt (m:=x.natAbs+1) ?_ ?_
 ·rw[Int.fdiv_eq_ediv]
  have h1:(x/y).natAbs <=x.natAbs:=Int.natAbs_ediv_le_natAbs x y
  split <;> omega
 ·have h1:B32^a+1<=B32^(a+1):=by
   rw[Nat.pow_succ]
   have h2:0<B32^a:=Nat.pow_pos (by decide)
   have h3:B32^a*2<=B32^a*B32:=Nat.mul_le_mul_left _ (by decide)
   omega
  unfold Lim at h
  omega
theorem tq (z y:Int) (h:y≠0):∃r,z=sg (decide (z<0) !=decide (y<0)) (z.natAbs/y.natAbs)*y+r/\r.natAbs<y.natAbs/\(0<=z->0<=r)/\(z<=0->r<=0):=by
 have h1:=Nat.div_add_mod z.natAbs y.natAbs
 have h2:=Nat.mod_lt z.natAbs (show 0<y.natAbs by omega)
 generalize z.natAbs/y.natAbs=q at*
 generalize z.natAbs%y.natAbs=r at*
 have h3:((y.natAbs*q:Nat):Int)=(y.natAbs:Int)*(q:Int):=by simp
 by_cases hz:z<0 <;> by_cases hy:y<0
 ·refine⟨-(r:Int),?_,by omega,by omega,by omega⟩
  rw[decide_eq_true hz,decide_eq_true hy]
  have e:(y.natAbs:Int)= -y:=by omega
  rw[e,Int.neg_mul] at h3
  show z=(q:Int)*y+_
  rw[Int.mul_comm];omega
 ·refine⟨-(r:Int),?_,by omega,by omega,by omega⟩
  rw[decide_eq_true hz,decide_eq_false hy]
  have e:(y.natAbs:Int)=y:=by omega
  rw[e] at h3
  show z= -(q:Int)*y+_
  rw[Int.neg_mul,Int.mul_comm];omega
 ·refine⟨(r:Int),?_,by omega,by omega,by omega⟩
  rw[decide_eq_false hz,decide_eq_true hy]
  have e:(y.natAbs:Int)= -y:=by omega
  rw[e,Int.neg_mul] at h3
  show z= -(q:Int)*y+_
  rw[Int.neg_mul,Int.mul_comm];omega
 ·refine⟨(r:Int),?_,by omega,by omega,by omega⟩
  rw[decide_eq_false hz,decide_eq_false hy]
  have e:(y.natAbs:Int)=y:=by omega
  rw[e] at h3
  show z=(q:Int)*y+_
  rw[Int.mul_comm];omega
theorem K2 {z y q r:Int} (h:y≠0) (e:z=q*y+r) (h1:0<y->0<=r/\r<y) (h2:y<0->r<=0/\y<r):q=Int.fdiv z y/\r=fr z y:=by
 unfold fr
 rw[if_neg h]
 rcases Int.lt_or_gt_of_ne h with h'|h'
 ·obtain⟨a,b⟩:=uB (a:=z) (b:=y) (q:=q) (r:=r) (by rw[e,Int.mul_comm]) (h2 h').1 (h2 h').2
  exact⟨a.symm,b.symm⟩
 ·obtain⟨a,b⟩:=rM (a:=z) (b:=y) (q:=q) (r:=r) (by rw[e,Int.mul_comm]) (h1 h').1 (h1 h').2
  exact⟨a.symm,b.symm⟩
theorem GO {a b:Int}:sz a*sz b<0↔(a<0/\0<b)\/(0<a/\b<0):=by
 unfold sz
 split <;> split <;> (try split) <;> (try split) <;> omega
theorem H5 {z y q:Int} (hq:q=sg (decide (z<0) !=decide (y<0)) (z.natAbs/y.natAbs)) (h:y≠0) (ht:sz (z+ -(q*y))*sz y<0):q+ -1=Int.fdiv z y/\z+ -((q+ -1)*y)=fr z y:=by
 obtain⟨r,e,h1,h2,h3⟩:=tq z y h
 rw[<-hq] at e
 have er:z+ -(q*y)=r:=by omega
 rw[er,GO] at ht
 have e2:(q+ -1)*y=q*y-y:=by rw[Int.add_mul];omega
 have:=K2 (z:=z) (y:=y) (q:=q+ -1) (r:=r+y) h (by rw[e2];omega) (by omega) (by omega)
 exact⟨this.1,by rw[e2,<-this.2];omega⟩
theorem JD {z y q:Int} (hq:q=sg (decide (z<0) !=decide (y<0)) (z.natAbs/y.natAbs)) (h:y≠0) (ht:¬sz (z+ -(q*y))*sz y<0):q=Int.fdiv z y/\z+ -(q*y)=fr z y:=by
 obtain⟨r,e,h1,h2,h3⟩:=tq z y h
 rw[<-hq] at e
 have er:z+ -(q*y)=r:=by omega
 rw[er,GO] at ht
 rw[er]
 exact K2 h e (by omega) (by omega)
theorem Rz.cast {w:World} {v:Value} {z z':Int} (h:Rz w v z) (e:z=z'):Rz w v z':=by subst e;exact h
def Kz (w:World) (z1 z2:Int) (e:Ending) (w':World):Prop:=∃v1 v2,e= .returned (.tuple #[v1,v2])/\Rz w' v1 (z1.fdiv z2)/\Rz w' v2 (fr z1 z2)/\Below w.heap.size w w'
theorem yg (v1 v2:Value) (z1 z2:Int) (k j:Nat) (w:World) (h1:Rz w v1 z1) (h2:Rz w v2 z2) (l1:Lim z1.natAbs k) (l2:Lim z2.natAbs j) (hk:k<=5000) (hj:j<=5000):
 CP 156 #[v1,v2] w (Kz w z1 z2):=by
 obtain⟨b1,ad1,n1,c1,rfl⟩:=h1.form
 have ha1:=h1.abs
 have hb1:=h1.neg
 obtain⟨b2,ad2,n2,c2,rfl⟩:=h2.form
 have ha2:=h2.abs
 have hb2:=h2.neg
 by_cases e2:z2=0
 ·have HE:=Lib.hid (show(0:Int)=Int.fdiv z1 z2/\0=fr z1 z2 by rw[e2];exact⟨(lD z1).1.symm,(lD z1).2.symm⟩)
  have hm2:n2=0:=Dg.len0 (by rw[e2] at ha2;exact ha2)
  clear hb1 hb2 e2
  refine gs2 (nt:=51) Tryz.func156 rfl rfl rfl fun a st hF=>wq<|bx st hF 0 rfl rfl fun g2 w1 a st hF=>bx st hF 2 rfl rfl fun g3 w2 a st hF=>S.alloc st hF aU rfl rfl fun g4 w3 a st hF=>S.alloc st hF aU rfl rfl fun g5 w4 a st hF=>ns<|wq<|oV hF (az hF.q (bJ (p:=1) rfl)) rfl fun a hF=>oV hF (av hF.o (bP (v:= .slice ad2 n2 c2) (st.b 2 rfl rfl) rfl)) rfl fun a hF=>oV hF (aW (aD hF.o) iP) rfl fun a hF=>oT hF 0 (aQ (c:=true) (eq0 (by rw[hm2];rfl))) rfl rfl fun a hF=>?_
  refine E.nil<|wp_cond_true hF.o<|wq<|oV hF (be (by simp) (mR _)) rfl fun a hF=>oV hF (be (by simp) (mR _)) rfl fun a hF=>so st hF 1 7 1 aU rfl rfl rfl rfl fun w5 a st hF=>so st hF 0 6 0 aU rfl rfl rfl rfl fun w6 a st hF=>nr<|E.pastr ?_
  have bel:=st.bel
  refine bodyPost_ret (fj Tryz.results156 (hF.at 7 rfl) (aX aU (st.bk 1 rfl) rfl) (hF.at 6 rfl) (aX aU (st.bk 0 rfl) rfl)) hF.dfr ?_
  exact⟨_,_,rfl,(Rz.zero _).cast HE.out.1,(Rz.zero _).cast HE.out.2,bel⟩
 ·have hm2:=Dg.lenp (by decide) ha2 (by omega)
  have hQ:sg (b1 !=b2) (Int.natAbs z1/Int.natAbs z2)=sg (decide (z1<0) !=decide (z2<0)) (Int.natAbs z1/Int.natAbs z2):=by rw[hb1,hb2]
  refine gs2 (nt:=51) Tryz.func156 rfl rfl rfl fun a st hF=>wq<|bx st hF 0 rfl rfl fun g2 w1 a st hF=>bx st hF 2 rfl rfl fun g3 w2 a st hF=>S.alloc st hF aU rfl rfl fun g4 w3 a st hF=>S.alloc st hF aU rfl rfl fun g5 w4 a st hF=>ns<|wq<|oV hF (az hF.q (bJ (p:=1) rfl)) rfl fun a hF=>oV hF (av hF.o (bP (v:= .slice ad2 n2 c2) (st.b 2 rfl rfl) rfl)) rfl fun a hF=>oV hF (aW (aD hF.o) iP) rfl fun a hF=>oT hF 0 (aQ (c:=false) (nN (by omega))) rfl rfl fun a hF=>?_
  refine E.nil<|wp_cond_false hF.o<|wp_skip<|E.norm<|wq<|oV hF (az (hF.at 7 rfl) (bJ (p:=1) rfl)) rfl fun a hF=>oV hF (av hF.o (bP (v:= .slice ad1 n1 c1) (st.b 3 rfl rfl) rfl)) rfl fun a hF=>oV hF (az (hF.at 8 rfl) (bJ (p:=1) rfl)) rfl fun a hF=>oV hF (av hF.o (bP (v:= .slice ad2 n2 c2) (st.b 2 rfl rfl) rfl)) rfl fun a hF=>?_
  refine S.call2 st hF (rgc N5 (aF hF.q hF.o)) (yf _ _ _ _ _ (ha1.below st.bel) (ha2.below st.bel) (Lim.dh l1 _ (by omega)) (Lim.dh l2 _ (by omega))) (fun _ _ h=>h) Dg.cl Dg.cl rfl rfl rfl rfl fun vv6 vv7 w5 a st hF=>?_
  obtain⟨ad10,n10,c10,rfl⟩:=Dg.form (st.f 0 rfl)
  obtain⟨ad11,n11,c11,rfl⟩:=Dg.form (st.f 1 rfl)
  refine oM hF 0 rfl rfl fun a hF=>oV hF (aM (v:= .slice ad10 n10 c10) hF.o rfl) rfl fun a hF=>oV hF (aM (v:= .slice ad11 n11 c11) hF.p rfl) rfl fun a hF=>oA hF 1 rfl rfl fun a hF=>oA hF 1 rfl rfl fun a hF=>nq<|oV hF (az (hF.at 17 rfl) (dC (p:=0) rfl)) rfl fun a hF=>oV hF (av hF.o (bF (v:= .bool b1) (st.b 3 rfl rfl) rfl)) rfl fun a hF=>oV hF (az (hF.at 18 rfl) (dC (p:=0) rfl)) rfl fun a hF=>oV hF (av hF.o (bF (v:= .bool b2) (st.b 2 rfl rfl) rfl)) rfl fun a hF=>oV hF (aq hF.q hF.o cy (dI (d:=(b1 !=b2)) rfl)) rfl fun a hF=>oM hF 6 rfl rfl fun a hF=>S.ck st hF (rgc wI (aF hF.p hF.o)) (cn (eJ _ _ _ _ (st.f 0 rfl)) (jL _ (Lim.le l1 (Nat.div_le_self _ _)))) Zl.cl rfl fun vv13 w12 a st hF=>?_
  obtain⟨b15,ad15,n15,c15,rfl⟩:=Rz.form (st.f 0 rfl).1
  refine S.new st hF 0 rfl aU rfl rfl rfl rfl rfl fun g8 w16 a st hF=>?_
  have hf17:=Rz.abs (st.f 0 rfl).1
  replace st:=st.add hf17 (Dg.cl _)
  clear hf17
  refine ns<|wp_seq ?_
  by_cases hc18:(sz (z1+(-((sg ((b1 !=b2)) ((Int.natAbs (z1))/(Int.natAbs (z2))))*z2))))*(sz (z2))<0
  ·refine E.rg 11 aG hF [30,31,32,33,34,35,36,37,38,39,40] [_,_,_,_,_,_,_,_,_,.ex (iv ((sz (z1+(-((sg ((b1 !=b2)) ((Int.natAbs (z1))/(Int.natAbs (z2))))*z2))))*(sz (z2)))),.ex (.bool true)] (by decide+kernel) rfl rfl rfl ⟨rb st aU 25 4 rfl,rb st aU 0 0 rfl,rb st aU 24 3 rfl,ck st mA rfl fun _ s=>cn (ev _ _ _ _ k j _ (s.f 1 rfl).1 (h2.below s.bel) (s.f 1 rfl).2 l2 (by omega) (by omega)) (cz (s.f 1 rfl).2 l2),ck st vR rfl fun _ s _ x33=>cn (jl _ _ _ x33.1) (jk x33.2),ck st tp rfl fun _ s _ x34=>cn (gO _ _ _ _ k (k+j) _ (h1.below s.bel) x34.1 l1 x34.2 (by omega) (by omega)) (f9 l1 x34.2 ((max k (k+j))+1) (by omega) (by omega)),ck st s5 rfl fun _ s _ x35=>a7 (ix _ _ _ x35.1),rb st aU 24 3 rfl,ck st s5 rfl fun _ s=>a7 (ix _ _ _ (h2.below s.bel)),(by intro a' w' hF' hb hd;have e36:=tE hd 0 rfl;have e38:=tE hd 1 rfl;exact dv0 (aq e36 e38 aa (dG (lC (lr _) (lr _)).1 (lC (lr _) (lr _)).2)) rfl rfl rfl),(by intro a' w' hF' hb hd;have e39:=tE hd 0 rfl;exact dv0 (aq e39 ao aa (aI (a9 (c:=true) (aK hc18)) (by simp))) rfl rfl rfl),trivial⟩ ?_
   intro a w19 hF bb hall
   replace st:=st.to bb
   replace hF:=rE hall hF 10 rfl rfl
   clear hall bb
   refine E.nil<|wp_cond_true hF.o ?_
   refine E.rg 3 aG hF [41,42,43] [_,_,_] (by decide+kernel) rfl rfl rfl ⟨rb st aU 1 0 rfl,ck st k97 rfl fun _ s=>cn (ti ((-1)) _ (by decide) (by decide)) (Jp (by decide)),ck st tp rfl fun _ s _ x42=>cn (gO _ _ _ _ k 2 _ (s.f 1 rfl).1 x42.1 (s.f 1 rfl).2 x42.2 (by omega) (by omega)) (f9 (s.f 1 rfl).2 x42.2 ((max k 2)+1) (by omega) (by omega)),trivial⟩ ?_
   intro a w20 hF bb hall
   replace st:=st.to bb
   obtain⟨vv21,hF,st⟩:=rS hall hF st 2 rfl rfl Zl.cl
   obtain⟨b23,ad23,n23,c23,rfl⟩:=Rz.form (st.f 0 rfl).1
   clear hall bb
   refine so st hF 0 2 0 aU rfl rfl rfl rfl fun w24 a st hF=>?_
   have hf25:=Rz.abs (st.f 0 rfl).1
   replace st:=st.add hf25 (Dg.cl _)
   clear hf25
   refine ns ?_
   refine E.rg 7 aG hF [44,45,46,47,48,49,50] [_,_,_,_,_,_,_] (by decide+kernel) rfl rfl rfl ⟨rb st aU 2 0 rfl,rb st aU 27 4 rfl,rb st aU 2 0 rfl,rb st aU 26 3 rfl,ck st mA rfl fun _ s=>cn (ev _ _ _ _ ((max k 2)+1) j _ (s.f 1 rfl).1 (h2.below s.bel) (s.f 1 rfl).2 l2 (by omega) (by omega)) (cz (s.f 1 rfl).2 l2),ck st vR rfl fun _ s _ x48=>cn (jl _ _ _ x48.1) (jk x48.2),ck st tp rfl fun _ s _ x49=>cn (gO _ _ _ _ k (((max k 2)+1)+j) _ (h1.below s.bel) x49.1 l1 x49.2 (by omega) (by omega)) (f9 l1 x49.2 ((max k (((max k 2)+1)+j))+1) (by omega) (by omega)),trivial⟩ ?_
   intro a w26 hF bb hall
   replace st:=st.to bb
   replace hF:=rE hall hF 0 rfl rfl
   obtain⟨vv27,hF,st⟩:=rS hall hF st 6 rfl rfl Zl.cl
   obtain⟨b29,ad29,n29,c29,rfl⟩:=Rz.form (st.f 0 rfl).1
   clear hall bb
   refine so st hF 2 27 1 aU rfl rfl rfl rfl fun w30 a st hF=>so st hF 1 26 0 aU rfl rfl rfl rfl fun w31 a st hF=>?_
   have hf32:=Rz.abs (st.f 0 rfl).1
   replace st:=st.add hf32 (Dg.cl _)
   clear hf32
   refine nr ?_
   have bel:=st.bel
   refine bodyPost_ret (fj Tryz.results156 (hF.at 27 rfl) (aX aU (st.bk 2 rfl) rfl) (hF.at 26 rfl) (aX aU (st.bk 1 rfl) rfl)) hF.dfr ?_
   have hh22:=(st.f 3 rfl).1
   have hh28:=(st.f 1 rfl).1
   have HE:=H5 hQ e2 hc18
   exact⟨_,_,rfl,Rz.cast hh22 HE.1,Rz.cast hh28 HE.2,bel⟩
  ·refine E.rg 11 aG hF [30,31,32,33,34,35,36,37,38,39,40] [_,_,_,_,_,_,_,_,_,.ex (iv ((sz (z1+(-((sg ((b1 !=b2)) ((Int.natAbs (z1))/(Int.natAbs (z2))))*z2))))*(sz (z2)))),.ex (.bool false)] (by decide+kernel) rfl rfl rfl ⟨rb st aU 25 4 rfl,rb st aU 0 0 rfl,rb st aU 24 3 rfl,ck st mA rfl fun _ s=>cn (ev _ _ _ _ k j _ (s.f 1 rfl).1 (h2.below s.bel) (s.f 1 rfl).2 l2 (by omega) (by omega)) (cz (s.f 1 rfl).2 l2),ck st vR rfl fun _ s _ x33=>cn (jl _ _ _ x33.1) (jk x33.2),ck st tp rfl fun _ s _ x34=>cn (gO _ _ _ _ k (k+j) _ (h1.below s.bel) x34.1 l1 x34.2 (by omega) (by omega)) (f9 l1 x34.2 ((max k (k+j))+1) (by omega) (by omega)),ck st s5 rfl fun _ s _ x35=>a7 (ix _ _ _ x35.1),rb st aU 24 3 rfl,ck st s5 rfl fun _ s=>a7 (ix _ _ _ (h2.below s.bel)),(by intro a' w' hF' hb hd;have e36:=tE hd 0 rfl;have e38:=tE hd 1 rfl;exact dv0 (aq e36 e38 aa (dG (lC (lr _) (lr _)).1 (lC (lr _) (lr _)).2)) rfl rfl rfl),(by intro a' w' hF' hb hd;have e39:=tE hd 0 rfl;exact dv0 (aq e39 ao aa (aI (a9 (c:=false) (aL hc18)) (by simp))) rfl rfl rfl),trivial⟩ ?_
   intro a w33 hF bb hall
   replace st:=st.to bb
   replace hF:=rE hall hF 10 rfl rfl
   clear hall bb
   refine E.nil<|wp_cond_false hF.o<|wp_skip<|E.norm<|wp_seq ?_
   refine E.rg 7 aG hF [44,45,46,47,48,49,50] [_,_,_,_,_,_,_] (by decide+kernel) rfl rfl rfl ⟨rb st aU 1 0 rfl,rb st aU 26 4 rfl,rb st aU 1 0 rfl,rb st aU 25 3 rfl,ck st mA rfl fun _ s=>cn (ev _ _ _ _ k j _ (s.f 1 rfl).1 (h2.below s.bel) (s.f 1 rfl).2 l2 (by omega) (by omega)) (cz (s.f 1 rfl).2 l2),ck st vR rfl fun _ s _ x48=>cn (jl _ _ _ x48.1) (jk x48.2),ck st tp rfl fun _ s _ x49=>cn (gO _ _ _ _ k (k+j) _ (h1.below s.bel) x49.1 l1 x49.2 (by omega) (by omega)) (f9 l1 x49.2 ((max k (k+j))+1) (by omega) (by omega)),trivial⟩ ?_
   intro a w34 hF bb hall
   replace st:=st.to bb
   replace hF:=rE hall hF 0 rfl rfl
   obtain⟨vv35,hF,st⟩:=rS hall hF st 6 rfl rfl Zl.cl
   obtain⟨b37,ad37,n37,c37,rfl⟩:=Rz.form (st.f 0 rfl).1
   clear hall bb
   refine so st hF 2 26 1 aU rfl rfl rfl rfl fun w38 a st hF=>so st hF 1 25 0 aU rfl rfl rfl rfl fun w39 a st hF=>?_
   have hf40:=Rz.abs (st.f 0 rfl).1
   replace st:=st.add hf40 (Dg.cl _)
   clear hf40
   refine nr ?_
   have bel:=st.bel
   refine bodyPost_ret (fj Tryz.results156 (hF.at 26 rfl) (aX aU (st.bk 2 rfl) rfl) (hF.at 25 rfl) (aX aU (st.bk 1 rfl) rfl)) hF.dfr ?_
   have hh14:=(st.f 3 rfl).1
   have hh36:=(st.f 1 rfl).1
   have HE:=JD hQ e2 hc18
   exact⟨_,_,rfl,Rz.cast hh14 HE.1,Rz.cast hh36 HE.2,bel⟩
end Go.Proofs.YtddiipaomejcfaaGreatDoor
