import Derived.Test.YtgdpkknapcgcbaaGreatDoorKC13
namespace Go.Proofs.YtgdpkknapcgcbaaGreatDoor
open Go.RowKit
set_option maxRecDepth 100000
set_option linter.unusedVariables false
set_option maxHeartbeats 8000000
section
section
theorem F8 {k:Nat} (h:1<=k):Lim (0:Int).natAbs k:=Nat.lt_of_lt_of_le (by decide:0<B32^1) (Nat.pow_le_pow_right bi h)
theorem nT (v1 v2:Value) (z1 z2:Int) (k:Nat) (w:World) (h1:Rz w v1 z1) (h2:Rz w v2 z2) (l1:Lim z1.natAbs k) (l2:Lim z2.natAbs k) (hk1:1<=k):
 CP 182 #[v1,v2] w (cf w ((z1:Rat)/(z2:Rat)) k):=by
 obtain⟨b1,ad1,n1,c1,rfl⟩:=h1.form
 have ha1:=h1.abs
 have hb1:=h1.neg
 obtain⟨b2,ad2,n2,c2,rfl⟩:=h2.form
 have ha2:=h2.abs
 have hb2:=h2.neg
 by_cases e1:z1=0
 ·have hq:=Lib.hid (show(z1:Rat)/(z2:Rat)=0 by rw[e1,Rat.intCast_zero,Rat.div_def,Rat.zero_mul])
  have hm1:n1=0:=Dg.len0 (by rw[e1] at ha1;exact ha1)
  clear e1 hb1 hb2
  refine gs2 (nt:=29) Tryz.func182 rfl rfl rfl fun a st hF=>wq<|bx st hF 0 rfl rfl fun g2 w1 a st hF=>bx st hF 2 rfl rfl fun g3 w2 a st hF=>S.alloc st hF ag rfl rfl fun g4 w3 a st hF=>ns<|wq<|oV hF (az hF.q (cj (p:=1) rfl)) rfl fun a hF=>oV hF (ar hF.o (cB (v:= .slice ad1 n1 c1) (st.b 2 rfl rfl) rfl)) rfl fun a hF=>oV hF (aW (aG hF.o) kE) rfl fun a hF=>oT hF 0 (aV (c:=true) (eq0 (by rw[hm1];rfl))) rfl rfl fun a hF=>oM hF 0 rfl rfl fun a hF=>nu hF 0 rfl rfl rfl fun a hF=>nu hF 1 rfl rfl rfl fun a hF=>?_
  refine nu hF 2 rfl rfl rfl fun a hF=>nu hF 3 rfl rfl rfl fun a hF=>oV hF (aK (hF.at 4 rfl) ao) rfl fun a hF=>E.nil<|wp_cond_true hF.o<|wq<|oV hF (bn (by simp) (pI _)) rfl fun a hF=>?_
  obtain⟨vv4,w5,hr,bb,hh6⟩:=ym w3
  refine oV hF (bO (eQ ao) hr) rfl fun a hF=>?_
  replace st:=(st.to bb).add hh6 (Dg.cl _)
  clear hr bb hh6
  obtain⟨ad7,n7,c7,rfl⟩:=Dg.form (st.f 0 rfl)
  refine oV hF (bn (gG hF.p hF.o) (kr _ _ _ _ _ _ _ _)) rfl fun a hF=>so st hF 0 13 0 ag rfl rfl rfl rfl fun w8 a st hF=>nr<|rs Tryz.results182 st hF 13 0 ag rfl rfl rfl ?_
  exact⟨_,rfl,Rr.mk (Rz.zero _) (st.f 0 rfl) (by omega) (hq.out.trans (Rat.zero_mkRat 1).symm) (F8 hk1) (Lim.one hk1),st.bel⟩
 ·by_cases e2:z2=0
  ·have hq:=Lib.hid (show(z1:Rat)/(z2:Rat)=0 by rw[e2,Rat.intCast_zero,Rat.div_def,Rat.inv_zero,Rat.mul_zero])
   have hm1:=Dg.lenp (by decide) ha1 (by omega)
   have hm2:n2=0:=Dg.len0 (by rw[e2] at ha2;exact ha2)
   clear e1 e2 hb1 hb2
   refine gs2 (nt:=29) Tryz.func182 rfl rfl rfl fun a st hF=>wq<|bx st hF 0 rfl rfl fun g2 w1 a st hF=>bx st hF 2 rfl rfl fun g3 w2 a st hF=>S.alloc st hF ag rfl rfl fun g4 w3 a st hF=>ns<|wq<|oV hF (az hF.q (cj (p:=1) rfl)) rfl fun a hF=>oV hF (ar hF.o (cB (v:= .slice ad1 n1 c1) (st.b 2 rfl rfl) rfl)) rfl fun a hF=>oV hF (aW (aG hF.o) kE) rfl fun a hF=>oT hF 0 (aV (c:=false) (qB (by omega))) rfl rfl fun a hF=>oM hF 0 rfl rfl fun a hF=>og hF (az (hF.at 6 rfl) (cj (p:=1) rfl)) 0 rfl rfl rfl fun a hF=>og hF (ar hF.o (cB (v:= .slice ad2 n2 c2) (st.b 1 rfl rfl) rfl)) 1 rfl rfl rfl fun a hF=>?_
   refine og hF (aW (aG hF.o) kE) 2 rfl rfl rfl fun a hF=>og hF (aq hF.o ao aa (aO (aV (c:=true) (eq0 (by rw[hm2];rfl))) (by simp))) 3 rfl rfl rfl fun a hF=>oV hF (aQ (hF.at 4 rfl) hF.o) rfl fun a hF=>E.nil<|wp_cond_true hF.o<|wq<|oV hF (bn (by simp) (pI _)) rfl fun a hF=>?_
   obtain⟨vv4,w5,hr,bb,hh6⟩:=ym w3
   refine oV hF (bO (eQ ao) hr) rfl fun a hF=>?_
   replace st:=(st.to bb).add hh6 (Dg.cl _)
   clear hr bb hh6
   obtain⟨ad7,n7,c7,rfl⟩:=Dg.form (st.f 0 rfl)
   refine oV hF (bn (gG hF.p hF.o) (kr _ _ _ _ _ _ _ _)) rfl fun a hF=>so st hF 0 13 0 ag rfl rfl rfl rfl fun w8 a st hF=>nr<|rs Tryz.results182 st hF 13 0 ag rfl rfl rfl ?_
   exact⟨_,rfl,Rr.mk (Rz.zero _) (st.f 0 rfl) (by omega) (hq.out.trans (Rat.zero_mkRat 1).symm) (F8 hk1) (Lim.one hk1),st.bel⟩
  ·have hq:=Lib.hid (show(z1:Rat)/(z2:Rat)=mkRat (sg (b1 !=b2) (Int.natAbs z1)) (Int.natAbs z2) by rw[hb1,hb2];exact(O1 z1 z2 e2).symm)
   have hm1:=Dg.lenp (by decide) ha1 (by omega)
   have hm2:=Dg.lenp (by decide) ha2 (by omega)
   have hD:0<Int.natAbs z2:=by omega
   clear e1 e2 hb1 hb2
   refine gs2 (nt:=29) Tryz.func182 rfl rfl rfl fun a st hF=>wq<|bx st hF 0 rfl rfl fun g2 w1 a st hF=>bx st hF 2 rfl rfl fun g3 w2 a st hF=>S.alloc st hF ag rfl rfl fun g4 w3 a st hF=>ns<|wq<|oV hF (az hF.q (cj (p:=1) rfl)) rfl fun a hF=>oV hF (ar hF.o (cB (v:= .slice ad1 n1 c1) (st.b 2 rfl rfl) rfl)) rfl fun a hF=>oV hF (aW (aG hF.o) kE) rfl fun a hF=>oT hF 0 (aV (c:=false) (qB (by omega))) rfl rfl fun a hF=>oM hF 0 rfl rfl fun a hF=>og hF (az (hF.at 6 rfl) (cj (p:=1) rfl)) 0 rfl rfl rfl fun a hF=>og hF (ar hF.o (cB (v:= .slice ad2 n2 c2) (st.b 1 rfl rfl) rfl)) 1 rfl rfl rfl fun a hF=>?_
   refine og hF (aW (aG hF.o) kE) 2 rfl rfl rfl fun a hF=>og hF (aq hF.o ao aa (aO (aV (c:=false) (qB (by omega))) (by simp))) 3 rfl rfl rfl fun a hF=>oV hF (aQ (hF.at 4 rfl) hF.o) rfl fun a hF=>E.nil<|wp_cond_false hF.o<|wp_skip<|E.norm<|wp_seq ?_
   refine E.drawn 11 aM hF [18,19,20,21,22,23,24,25,26,27,28] [(fun _ v=>v= .pointer (some ⟨g2,0,none⟩)),(fun _ v=>v= .bool b1),(fun _ v=>v= .pointer (some ⟨g3,0,none⟩)),(fun _ v=>v= .bool b2),(fun _ v=>v= .bool (b1 !=b2)),(fun _ v=>v= .pointer (some ⟨g2,1,none⟩)),(fun _ v=>v= .slice ad1 n1 c1),(fun w v=>Rz w v (sg ((b1 !=b2)) (Int.natAbs (z1)))),(fun _ v=>v= .pointer (some ⟨g3,1,none⟩)),(fun _ v=>v= .slice ad2 n2 c2),(fun w v=>Rr w v ((z1:Rat)/(z2:Rat)) (k))] [] (by decide+kernel) (by decide+kernel) rfl rfl rfl ⟨(Mb.eq _),(Mb.eq _),(Mb.eq _),(Mb.eq _),(Mb.eq _),(Mb.eq _),(Mb.eq _),(fun _ _ _ h hb=>h.below hb),(Mb.eq _),(Mb.eq _),(fun _ _ _ h hb=>h.below hb),trivial⟩ trivial ⟨?_,?_,?_,?_,?_,?_,?_,?_,?_,?_,?_,trivial⟩ ?_
   ·intro a' w' hF' hb hd
    exact dv0 (az (hF'.at 12 rfl) (eu (p:=0) rfl)) rfl rfl rfl
   ·intro a' w' hF' hb hd
    have e18:=tE hd 0 rfl
    exact dv0 (ar e18 (bR (v:= .bool b1) ((st.b 2 rfl rfl).below hb) rfl)) rfl rfl rfl
   ·intro a' w' hF' hb hd
    exact dv0 (az (hF'.at 11 rfl) (eu (p:=0) rfl)) rfl rfl rfl
   ·intro a' w' hF' hb hd
    have e20:=tE hd 0 rfl
    exact dv0 (ar e20 (bR (v:= .bool b2) ((st.b 1 rfl rfl).below hb) rfl)) rfl rfl rfl
   ·intro a' w' hF' hb hd
    have e19:=tE hd 0 rfl
    have e21:=tE hd 1 rfl
    exact dv0 (aq e19 e21 cZ (iQ (d:=(b1 !=b2)) rfl)) rfl rfl rfl
   ·intro a' w' hF' hb hd
    exact dv0 (az (hF'.at 12 rfl) (cj (p:=1) rfl)) rfl rfl rfl
   ·intro a' w' hF' hb hd
    have e23:=tE hd 0 rfl
    exact dv0 (ar e23 (cB (v:= .slice ad1 n1 c1) ((st.b 2 rfl rfl).below hb) rfl)) rfl rfl rfl
   ·intro a' w' hF' hb hd
    have e22:=tE hd 0 rfl
    have e24:=tE hd 1 rfl
    exact dc0 (rk SF (aL e22 e24)) (fF _ _ (Int.natAbs (z1)) _ (ha1.below (aF st.bel hb))) rfl rfl
   ·intro a' w' hF' hb hd
    exact dv0 (az (hF'.at 11 rfl) (cj (p:=1) rfl)) rfl rfl rfl
   ·intro a' w' hF' hb hd
    have e26:=tE hd 0 rfl
    exact dv0 (ar e26 (cB (v:= .slice ad2 n2 c2) ((st.b 1 rfl rfl).below hb) rfl)) rfl rfl rfl
   ·intro a' w' hF' hb hd
    obtain⟨v25_0,e25,h25_1⟩:=tH hd 0 rfl
    have e27:=tE hd 1 rfl
    obtain⟨b4,ad4,n4,c4,rfl⟩:=Rz.form h25_1
    exact dv0 (bn (gG e25 e27) (kr _ _ _ _ _ _ _ _)) (Rr.mk h25_1 (ha2.below (aF st.bel hb)) hD hq.out (lI _ l1) l2) rfl rfl
   intro a w5 hF bb hall hne
   replace st:=st.to bb
   obtain⟨vv6,hF,st⟩:=aS hall hF st 10 rfl rfl Rr.cl
   clear hall hne bb
   obtain⟨r8,rfl⟩:=Rr.fo (st.f 0 rfl)
   refine so st hF 0 11 0 ag rfl rfl rfl rfl fun w9 a st hF=>nr<|rs Tryz.results182 st hF 11 0 ag rfl rfl rfl ?_
   exact⟨_,rfl,(st.f 0 rfl),st.bel⟩
theorem mH (v1:Value) (q1:Rat) (k:Nat) (w:World) (h1:Rr w v1 q1 k):
 CP 220 #[v1] w (cf w (-q1) k):=by
 obtain⟨b1,ad1,n1,c1,ae1,m1,d1,z1,D1,rfl,hn1,hd1,hD1,hq1,lz1,lD1⟩:=h1.shape
 have ha1:=hn1.abs
 have hb1:=hn1.neg
 replace hq1:=Lib.hid hq1
 refine gs1 (nt:=9) Tryz.func220 rfl rfl rfl fun a st hF=>wq<|bx st hF 0 rfl rfl fun g1 w1 a st hF=>S.alloc st hF ag rfl rfl fun g2 w2 a st hF=>ns ?_
 refine E.drawn 6 aM hF [3,4,5,6,7,8] [(fun _ v=>v= .pointer (some ⟨g1,0,none⟩)),(fun _ v=>v= .agg #[.bool b1,.slice ad1 n1 c1]),(fun w v=>Rz w v (-(z1))),(fun _ v=>v= .pointer (some ⟨g1,2,none⟩)),(fun _ v=>v= .slice ae1 m1 d1),(fun w v=>Rr w v (-q1) (k))] [] (by decide+kernel) (by decide+kernel) rfl rfl rfl ⟨(Mb.eq _),(Mb.eq _),(fun _ _ _ h hb=>h.below hb),(Mb.eq _),(Mb.eq _),(fun _ _ _ h hb=>h.below hb),trivial⟩ trivial ⟨?_,?_,?_,?_,?_,?_,trivial⟩ ?_
 ·intro a' w' hF' hb hd
  exact dv0 (az (hF'.at 1 rfl) (fi (p:=0) rfl)) rfl rfl rfl
 ·intro a' w' hF' hb hd
  have e3:=tE hd 0 rfl
  exact dv0 (ar e3 (gQ (vs:=[.bool b1,.slice ad1 n1 c1]) ((st.b 1 rfl rfl).below hb) rfl rfl)) rfl rfl rfl
 ·intro a' w' hF' hb hd
  have e4:=tE hd 0 rfl
  exact dc0 (rk QG (aG e4)) (kS _ _ _ (hn1.below (aF st.bel hb))) rfl rfl
 ·intro a' w' hF' hb hd
  exact dv0 (az (hF'.at 1 rfl) (fE (p:=2) rfl)) rfl rfl rfl
 ·intro a' w' hF' hb hd
  have e6:=tE hd 0 rfl
  exact dv0 (ar e6 (cB (v:= .slice ae1 m1 d1) ((st.b 1 rfl rfl).below hb) rfl)) rfl rfl rfl
 ·intro a' w' hF' hb hd
  obtain⟨v5_0,e5,h5_1⟩:=tH hd 0 rfl
  have e7:=tE hd 1 rfl
  obtain⟨b3,ad3,n3,c3,rfl⟩:=Rz.form h5_1
  exact dv0 (bn (gG e5 e7) (kr _ _ _ _ _ _ _ _)) (Rr.mk h5_1 (hd1.below (aF st.bel hb)) hD1 (by rw[hq1.out,Rat.neg_mkRat]) (kO lz1) lD1) rfl rfl
 intro a w4 hF bb hall hne
 replace st:=st.to bb
 obtain⟨vv5,hF,st⟩:=aS hall hF st 5 rfl rfl Rr.cl
 clear hall hne bb
 obtain⟨r7,rfl⟩:=Rr.fo (st.f 0 rfl)
 refine so st hF 0 1 0 ag rfl rfl rfl rfl fun w8 a st hF=>nr<|rs Tryz.results220 st hF 1 0 ag rfl rfl rfl ?_
 exact⟨_,rfl,(st.f 0 rfl),st.bel⟩
theorem iZ (v1:Value) (q1:Rat) (k:Nat) (w:World) (h1:Rr w v1 q1 k):
 CP 252 #[v1] w (jP w (sz q1.num)):=by
 obtain⟨b1,ad1,n1,c1,ae1,m1,d1,z1,D1,rfl,hn1,hd1,hD1,hq1,lz1,lD1⟩:=h1.shape
 have ha1:=hn1.abs
 have hb1:=hn1.neg
 replace hq1:=Lib.hid hq1
 refine gs1 (nt:=6) Tryz.func252 rfl rfl rfl fun a st hF=>wq<|bx st hF 0 rfl rfl fun g1 w1 a st hF=>?_
 refine oC hF rfl fun a hF=>nq<|oV hF (az hF.p (fi (p:=0) rfl)) rfl fun a hF=>oV hF (ar hF.o (gQ (vs:=[.bool b1,.slice ad1 n1 c1]) (st.b 0 rfl rfl) rfl rfl)) rfl fun a hF=>cX st hF (rgc vN (aG hF.o)) (jR _ _ _ (hn1.below st.bel)) rfl fun w2 a st hF=>?_
 refine oE hF 0 rfl rfl fun a hF=>nr ?_
 have bel:=st.bel
 refine rt Tryz.results252 hF 0 rfl ?_
 exact⟨by rw[hq1.out,<-RE hD1],bel⟩
theorem ER {z:Int}:sz z<0↔z<0:=by unfold sz;split <;> (try split) <;> omega
theorem DW {q:Rat} (h:sz q.num<0): -q=Rat.abs q:=by
 have h1:=ER.1 h
 rw[Rat.abs_of_nonpos]
 exact Rat.not_lt.1 (fun h2=>by have:=Rat.num_nonneg.2 (Rat.le_of_lt h2);omega)
theorem DD {q:Rat} (h:¬sz q.num<0):q=Rat.abs q:=by
 have h1:0<=q.num:=by
  rcases Int.lt_or_le q.num 0 with e|e
  ·exact absurd (ER.2 e) h
  ·exact e
 rw[Rat.abs_of_nonneg (Rat.num_nonneg.1 h1)]
theorem pQ (v1:Value) (q1:Rat) (k:Nat) (w:World) (h1:Rr w v1 q1 k):
 CP 242 #[v1] w (cf w (Rat.abs q1) k):=by
 obtain⟨b1,ad1,n1,c1,ae1,m1,d1,z1,D1,rfl,hn1,hd1,hD1,hq1,lz1,lD1⟩:=h1.shape
 have ha1:=hn1.abs
 have hb1:=hn1.neg
 replace hq1:=Lib.hid hq1
 by_cases hs:sz (Rat.num (q1))<0
 ·have HA:=Lib.hid (DW hs)
  refine gs1 (nt:=9) Tryz.func242 rfl rfl rfl fun a st hF=>wq<|bx st hF 0 rfl rfl fun g1 w1 a st hF=>S.alloc st hF ag rfl rfl fun g2 w2 a st hF=>ns<|wq<|oL hF st 1 1 ag rfl rfl rfl rfl fun a hF=>cX st hF (rgc qD (aG hF.o)) (iZ _ (q1) k _ (h1.below st.bel)) rfl fun w3 a st hF=>oT hF 0 (aY (c:=true) (QK hs)) rfl rfl fun a hF=>?_
  refine E.nil<|wp_cond_true hF.o<|wq<|oL hF st 4 1 ag rfl rfl rfl rfl fun a hF=>?_
  refine ca st hF (rgc yM (aG hF.o)) (mH _ (q1) k _ (h1.below st.bel)) (fun _ _ h=>h) Rr.cl rfl fun vv5 w4 a st hF=>?_
  obtain⟨r7,rfl⟩:=Rr.fo (st.f 0 rfl)
  refine so st hF 0 5 0 ag rfl rfl rfl rfl fun w8 a st hF=>nr<|rs Tryz.results242 st hF 5 0 ag rfl rfl rfl ?_
  exact⟨_,rfl,Rr.cast (st.f 0 rfl) HA.out,st.bel⟩
 ·have HA:=Lib.hid (DD hs)
  refine gs1 (nt:=9) Tryz.func242 rfl rfl rfl fun a st hF=>wq<|bx st hF 0 rfl rfl fun g1 w1 a st hF=>S.alloc st hF ag rfl rfl fun g2 w2 a st hF=>ns<|wq<|oL hF st 1 1 ag rfl rfl rfl rfl fun a hF=>cX st hF (rgc qD (aG hF.o)) (iZ _ (q1) k _ (h1.below st.bel)) rfl fun w3 a st hF=>oT hF 0 (aY (c:=false) (Qu hs)) rfl rfl fun a hF=>?_
  refine E.nil<|wp_cond_false hF.o<|wp_skip<|E.norm<|wq<|oL hF st 4 1 ag rfl rfl rfl rfl fun a hF=>so st hF 0 4 0 ag rfl rfl rfl rfl fun w4 a st hF=>nr<|rs Tryz.results242 st hF 4 0 ag rfl rfl rfl ?_
  have bel:=st.bel
  have h1:=(h1.below st.bel)
  exact⟨_,rfl,Rr.cast h1 HA.out,bel⟩
theorem yz {n:Int} (h0: -9223372036854775808<n) (h1:n<=9223372036854775807):Lim n.natAbs 2:=Lim.of64 (by omega)
theorem rL (n d:Int) (w:World) (b1: -9223372036854775808<n) (b2:n<=9223372036854775807) (b3: -9223372036854775808<d) (b4:d<=9223372036854775807):
 CP 143 #[iv n,iv d] w (cf w ((n:Rat)/(d:Rat)) 2):=by
 refine gs2 (nt:=10) Tryz.func143 rfl rfl rfl fun a st hF=>wq<|S.alloc st hF ag rfl rfl fun g4 w1 a st hF=>nq<|oM hF 1 rfl rfl fun a hF=>S.ck st hF (rgc I8 (aG hF.o)) (cP (vv n _ b1 b2) (yz b1 b2)) Zl.cl rfl fun vv3 w2 a st hF=>?_
 obtain⟨b5,ad5,n5,c5,rfl⟩:=Rz.form (st.f 0 rfl).1
 refine oM hF 4 rfl rfl fun a hF=>S.ck st hF (rgc I8 (aG hF.o)) (cP (vv d _ b3 b4) (yz b3 b4)) Zl.cl rfl fun vv7 w6 a st hF=>?_
 obtain⟨b9,ad9,n9,c9,rfl⟩:=Rz.form (st.f 0 rfl).1
 refine ca st hF (rgc I7 (aL hF.q hF.o)) (nT _ _ (n) (d) 2 _ (st.f 1 rfl).1 (st.f 0 rfl).1 (Lim.up (st.f 1 rfl).2 _ (by omega)) (Lim.up (st.f 0 rfl).2 _ (by omega)) (by omega)) (fun _ _ h=>h) Rr.cl rfl fun vv11 w10 a st hF=>?_
 obtain⟨r13,rfl⟩:=Rr.fo (st.f 0 rfl)
 refine so st hF 0 5 0 ag rfl rfl rfl rfl fun w14 a st hF=>nr<|rs Tryz.results143 st hF 5 0 ag rfl rfl rfl ?_
 exact⟨_,rfl,(st.f 0 rfl),st.bel⟩
end
section
end
end
end Go.Proofs.YtgdpkknapcgcbaaGreatDoor
