import Derived.Test.YtgdpkknapcgcbaaGreatDoorKC12
namespace Go.Proofs.YtgdpkknapcgcbaaGreatDoor
open Go.RowKit
set_option maxRecDepth 100000
set_option linter.unusedVariables false
set_option maxHeartbeats 8000000
section
section
theorem iA (v1 v2:Value) (N M:Nat) (w:World) (h1:Nt w v1 N) (h2:Nt w v2 M):
 CP 146 #[v1,v2] w (kD w (N/M)):=by
 refine gs2 (nt:=14) Tryz.func146 rfl rfl rfl fun a st hF=>wq ?_
 refine oC hF rfl fun a hF=>nq<|oM hF 1 rfl rfl fun a hF=>oM hF 3 rfl rfl fun a hF=>?_
 refine S.call2 st hF (rgc NE (aL hF.p hF.o)) (uP _ _ _ _ _ (h1.below st.bel) (h2.below st.bel)) (fun _ _ h=>h) Dg.cl Dg.cl rfl rfl rfl rfl fun vv2 vv3 w1 a st hF=>?_
 obtain⟨ad6,n6,c6,rfl⟩:=Dg.form (st.f 0 rfl)
 obtain⟨ad7,n7,c7,rfl⟩:=Dg.form (st.f 1 rfl)
 refine oM hF 0 rfl rfl fun a hF=>oV hF (aH (v:= .slice ad6 n6 c6) hF.o rfl) rfl fun a hF=>oV hF (aH (v:= .slice ad7 n7 c7) hF.p rfl) rfl fun a hF=>oA hF 1 rfl rfl fun a hF=>oA hF 1 rfl rfl fun a hF=>nq ?_
 refine oM hF 1 rfl rfl fun a hF=>oE hF 0 rfl rfl fun a hF=>nr ?_
 have bel:=st.bel
 refine rt Tryz.results146 hF 0 rfl ?_
 have hh4:=(st.f 0 rfl)
 exact⟨_,rfl,hh4,bel⟩
theorem mg (v1 v2:Value) (z:Int) (N j k:Nat) (w:World) (h1:Wz w v1 z) (h2:Nt w v2 N) (l1:Lim z.natAbs j) (l2:Lim N k) (hj:j<=1000000) (hk:k<=1000000):
 CP 82 #[v1,v2] w (fK w (z*(N:Int))):=by
 obtain⟨neg1,ad1,n1,c1,N1,rfl,hN1,rfl⟩:=h1.shape
 have h1:Wz w (.agg #[.bool neg1,.slice ad1 n1 c1]) (sg neg1 N1):=⟨_,_,_,rfl,hN1,rfl⟩
 obtain⟨ad2,n2,c2,rfl⟩:=h2.form
 refine gs2 (nt:=9) Tryz.func82 rfl rfl rfl fun a st hF=>wq<|bx st hF 0 rfl rfl fun g2 w1 a st hF=>S.alloc st hF bw rfl rfl fun g4 w2 a st hF=>nq<|oL hF st 1 1 bw rfl rfl rfl rfl fun a hF=>oM hF 4 rfl rfl fun a hF=>oV hF (bn (eQ hF.o) (ub _ _ _ _)) rfl fun a hF=>S.ck st hF (rgc Se (aL hF.q hF.o)) (eI (Eo _ _ _ _ j k _ (h1.below st.bel) (Wz.mk (h2.below st.bel)) l1 (lI _ l2) (by omega) (by omega)) (df l1 (lI _ l2))) Wl.cl rfl fun vv4 w3 a st hF=>?_
 obtain⟨ad6,n6,c6,rfl,_⟩:=Wc.shape (st.f 0 rfl).1
 refine so st hF 0 4 0 bw rfl rfl rfl rfl fun w7 a st hF=>?_
 have hf8:=Wc.abs (st.f 0 rfl).1
 replace st:=st.add hf8 (Dg.cl _)
 clear hf8
 refine nr<|rs Tryz.results82 st hF 4 0 bw rfl rfl rfl ?_
 exact⟨_,rfl,((st.f 1 rfl).1),st.bel⟩
theorem eh (v1:Value) (q1:Rat) (w:World) (h1:Rq w v1 q1):
 CP 83 #[v1] w (kD w (q1.den)):=by
 obtain⟨b1,ad1,n1,c1,ae1,m1,d1,rfl,hn1,hd1⟩:=h1.shape
 have ha1:=hn1.abs
 have hb1:=hn1.neg
 by_cases h0:q1=0
 ·subst h0
  rw[Cy] at hd1
  have hm:=hd1.len0
  clear h1
  refine gs1 (nt:=10) Tryz.func83 rfl rfl rfl fun a st hF=>wq<|bx st hF 0 rfl rfl fun g1 w1 a st hF=>?_
  refine oC hF rfl fun a hF=>ns<|wq<|oV hF (az hF.p (pT (p:=2) rfl)) rfl fun a hF=>oV hF (ar hF.o (cW (v:= .slice ae1 m1 d1) (st.b 0 rfl rfl) rfl)) rfl fun a hF=>oV hF (aW (aG hF.o) yY) rfl fun a hF=>oT hF 0 (aV (c:=true) (eq0 (by rw[hm];rfl))) rfl rfl fun a hF=>E.nil<|wp_cond_true hF.o<|wq<|S.ck st hF (rgc k66 (aG ao)) (bW (rF 1 _ (by decide))) Dg.cl rfl fun vv3 w2 a st hF=>?_
  obtain⟨ad5,n5,c5,rfl⟩:=Dg.form (st.f 0 rfl)
  refine oE hF 0 rfl rfl fun a hF=>nr ?_
  have bel:=st.bel
  refine rt Tryz.results83 hF 0 rfl ?_
  have hh4:=(st.f 0 rfl)
  exact⟨_,rfl,hh4,bel⟩
 ·rw[xE h0] at hd1
  have hm:=hd1.lenp aU (Rat.den_pos q1)
  clear h1
  refine gs1 (nt:=10) Tryz.func83 rfl rfl rfl fun a st hF=>wq<|bx st hF 0 rfl rfl fun g1 w1 a st hF=>?_
  refine oC hF rfl fun a hF=>ns<|wq<|oV hF (az hF.p (pT (p:=2) rfl)) rfl fun a hF=>oV hF (ar hF.o (cW (v:= .slice ae1 m1 d1) (st.b 0 rfl rfl) rfl)) rfl fun a hF=>oV hF (aW (aG hF.o) yY) rfl fun a hF=>oT hF 0 (aV (c:=false) (qB (by omega))) rfl rfl fun a hF=>E.nil<|wp_cond_false hF.o<|wp_skip<|E.norm<|wq ?_
  refine oV hF (az (hF.at 5 rfl) (pT (p:=2) rfl)) rfl fun a hF=>oV hF (ar hF.o (cW (v:= .slice ae1 m1 d1) (st.b 0 rfl rfl) rfl)) rfl fun a hF=>oE hF 0 rfl rfl fun a hF=>nr ?_
  have bel:=st.bel
  refine rt Tryz.results83 hF 0 rfl ?_
  have hd1:=(hd1.below st.bel)
  exact⟨_,rfl,hd1,bel⟩
theorem Rz0 {q:Rat} (h:q=0) (w:World):Rq w (.agg #[.bool false,.slice none 0 0,.slice none 0 0]) q:=by subst h;exact Rq.zero w
theorem nk (b:Bool) (s v2:Value) (N D:Nat) (q:Rat) (w:World) (h1:Dg w .u32 B32 s N) (h2:Dg w .u32 B32 v2 D) (hz:sg b N=q.num) (hd:N≠0->D=q.den):
 CQ 93 #[.agg #[.bool b,s],v2] w q:=by
 obtain⟨ad1,n1,c1,rfl⟩:=h1.form
 obtain⟨ae1,m1,d1,rfl⟩:=h2.form
 have hg:Wg w (.agg #[.bool b,.slice ad1 n1 c1]) b N:=Wg.mk h1
 by_cases h0:N=0
 ·have hq:q=0:=Rat.num_eq_zero.1 (by rw[<-hz,h0,ga])
  refine gs2 (nt:=12) Tryz.func93 rfl rfl rfl fun a st hF=>wq<|bx st hF 0 rfl rfl fun g2 w1 a st hF=>S.alloc st hF ab rfl rfl fun g4 w2 a st hF=>ns<|wq<|oL hF st 1 1 bw rfl rfl rfl rfl fun a hF=>cX st hF (rgc Am (aG hF.o)) (eG _ _ _ (Wg.wz (hg.below st.bel))) rfl fun w3 a st hF=>oT hF 0 (aV (c:=true) (eq0 (GM h0))) rfl rfl fun a hF=>?_
  refine E.nil<|wp_cond_true hF.o<|wq<|oV hF (bn (by simp) (jK _)) rfl fun a hF=>so st hF 0 4 0 ab rfl rfl rfl rfl fun w4 a st hF=>nr<|rs Tryz.results93 st hF 4 0 ab rfl rfl rfl ?_
  exact⟨_,rfl,Rz0 hq _,st.bel⟩
 ·have st:=St.start w
  refine go2 (nt:=12) Tryz.func93 rfl rfl rfl fun a hF=>wq<|bx st hF 0 rfl rfl fun g2 w1 a st hF=>S.alloc st hF ab rfl rfl fun g4 w2 a st hF=>ns<|wq<|oL hF st 1 1 bw rfl rfl rfl rfl fun a hF=>cX st hF (rgc Am (aG hF.o)) (eG _ _ _ (Wg.wz (hg.below st.bel))) rfl fun w3 a st hF=>oT hF 0 (aV (c:=false) (qB (GB h0))) rfl rfl fun a hF=>?_
  refine E.nil<|wp_cond_false hF.o<|wp_skip<|E.norm<|wq<|oL hF st 4 1 bw rfl rfl rfl rfl fun a hF=>oM hF 7 rfl rfl fun a hF=>oV hF (bn (gG hF.p hF.o) (wO _ _ _ _ _ _ _ _)) rfl fun a hF=>so st hF 0 6 0 ab rfl rfl rfl rfl fun w4 a st hF=>nr<|rs Tryz.results93 st hF 6 0 ab rfl rfl rfl ?_
  have bel:=st.bel
  have h1:=(h1.below st.bel)
  have h2:=(h2.below st.bel)
  exact⟨_,rfl,Rq.mk h1 h2 h0 hz (hd h0),bel⟩
theorem JQ (v1 v2:Value) (b:Bool) (N D:Nat) (q:Rat) (w:World) (h1:Wg w v1 b N) (h2:Dg w .u32 B32 v2 D) (hz:sg b N=q.num) (hd:N≠0->D=q.den):CQ 93 #[v1,v2] w q:=by
 obtain⟨s,rfl,h⟩:=h1
 exact nk b s v2 N D q w h h2 hz hd
theorem ua (v1 v2:Value) (z:Int) (D:Nat) (q:Rat) (w:World) (h1:Wc w v1 z) (h2:Dg w .u32 B32 v2 D) (hz:z=q.num) (hd:z≠0->D=q.den):CQ 93 #[v1,v2] w q:=by
 obtain⟨s,rfl,h⟩:=h1
 exact nk _ s v2 z.natAbs D q w h h2 ((mU z).trans hz) (fun hn=>hd (by omega))
theorem gv (v1:Value) (q1:Rat) (w:World) (h1:Rq w v1 q1):
 CP 223 #[v1] w (jP w (sz q1.num)):=by
 obtain⟨b1,ad1,n1,c1,ae1,m1,d1,rfl,hn1,hd1⟩:=h1.shape
 have ha1:=hn1.abs
 have hb1:=hn1.neg
 refine gs1 (nt:=6) Tryz.func223 rfl rfl rfl fun a st hF=>wq<|bx st hF 0 rfl rfl fun g1 w1 a st hF=>?_
 refine oC hF rfl fun a hF=>nq<|oV hF (az hF.p (dH (p:=0) rfl)) rfl fun a hF=>oV hF (ar hF.o (iX (vs:=[.bool b1,.slice ad1 n1 c1]) (st.b 0 rfl rfl) rfl rfl)) rfl fun a hF=>cX st hF (rgc Am (aG hF.o)) (eG _ _ _ (Wc.wz (hn1.below st.bel))) rfl fun w2 a st hF=>?_
 refine oE hF 0 rfl rfl fun a hF=>nr ?_
 have bel:=st.bel
 refine rt Tryz.results223 hF 0 rfl ?_
 exact⟨rfl,bel⟩
theorem Af (v1:Value) (q1:Rat) (w:World) (h1:Rq w v1 q1):
 CP 61 #[v1] w (fK w (q1.num)):=by
 obtain⟨b1,ad1,n1,c1,ae1,m1,d1,rfl,hn1,hd1⟩:=h1.shape
 have ha1:=hn1.abs
 have hb1:=hn1.neg
 have ES:=Lib.hid (show sg b1 (Int.natAbs (Rat.num q1))=q1.num by rw[hb1,mU])
 refine gs1 (nt:=10) Tryz.func61 rfl rfl rfl fun a st hF=>wq<|bx st hF 0 rfl rfl fun g1 w1 a st hF=>S.alloc st hF bw rfl rfl fun g2 w2 a st hF=>nq<|oV hF (az hF.p (dH (p:=0) rfl)) rfl fun a hF=>oV hF (az hF.o (cL (p:=0) rfl)) rfl fun a hF=>oV hF (ar hF.o (bR (v:= .bool b1) (st.b 1 rfl rfl) rfl)) rfl fun a hF=>oV hF (az (hF.at 4 rfl) (dH (p:=0) rfl)) rfl fun a hF=>oV hF (az hF.o (cI (p:=1) rfl)) rfl fun a hF=>oV hF (ar hF.o (cW (v:= .slice ad1 n1 c1) (st.b 1 rfl rfl) rfl)) rfl fun a hF=>?_
 refine S.ck st hF (rgc Oj (aL (hF.at 3 rfl) hF.o)) (gN (tk _ _ _ _ (Dg.nt (ha1.below st.bel)))) Wc.cl rfl fun vv4 w3 a st hF=>?_
 obtain⟨ad6,n6,c6,rfl,_⟩:=Wc.shape (st.f 0 rfl)
 refine so st hF 0 7 0 bw rfl rfl rfl rfl fun w7 a st hF=>?_
 have hf8:=Wc.abs (st.f 0 rfl)
 replace st:=st.add hf8 (Dg.cl _)
 clear hf8
 refine nr<|rs Tryz.results61 st hF 7 0 bw rfl rfl rfl ?_
 exact⟨_,rfl,Wc.cast (st.f 1 rfl) ES.out,st.bel⟩
theorem pY (v1:Value) (q1:Rat) (w:World) (h1:Rq w v1 q1):
 CP 62 #[v1] w (kD w (q1.den)):=by
 obtain⟨r1,rfl⟩:=h1.fo
 refine gs1 (nt:=6) Tryz.func62 rfl rfl rfl fun a st hF=>wq<|bx st hF 0 rfl rfl fun g1 w1 a st hF=>?_
 refine oC hF rfl fun a hF=>nq<|oL hF st 1 0 ab rfl rfl rfl rfl fun a hF=>S.ck st hF (rgc k83 (aG hF.o)) (bW (eh _ (q1) _ (h1.below st.bel))) Dg.cl rfl fun vv3 w2 a st hF=>?_
 obtain⟨ad5,n5,c5,rfl⟩:=Dg.form (st.f 0 rfl)
 refine S.ck st hF (rgc R2 (aG hF.o)) (bW (Bl _ _ _ (Dg.nt (st.f 0 rfl)))) Dg.cl rfl fun vv7 w6 a st hF=>?_
 obtain⟨ad9,n9,c9,rfl⟩:=Dg.form (st.f 0 rfl)
 refine oE hF 0 rfl rfl fun a hF=>nr ?_
 have bel:=st.bel
 refine rt Tryz.results62 hF 0 rfl ?_
 have hh8:=(st.f 0 rfl)
 exact⟨_,rfl,hh8,bel⟩
theorem CA (v1 v2:Value) (z1 z2:Int) (w:World) (h1:Wz w v1 z1) (h2:Wz w v2 z2):
 CQ 87 #[v1,v2] w ((z1:Rat)/(z2:Rat)):=by
 obtain⟨neg1,ad1,n1,c1,N1,rfl,hN1,rfl⟩:=h1.shape
 have h1:Wz w (.agg #[.bool neg1,.slice ad1 n1 c1]) (sg neg1 N1):=⟨_,_,_,rfl,hN1,rfl⟩
 obtain⟨neg2,ad2,n2,c2,N2,rfl,hN2,rfl⟩:=h2.shape
 have h2:Wz w (.agg #[.bool neg2,.slice ad2 n2 c2]) (sg neg2 N2):=⟨_,_,_,rfl,hN2,rfl⟩
 by_cases h0:N2=0
 ·have hq:(sg neg1 N1:Rat)/(sg neg2 N2:Rat)=0:=by rw[h0,ga,Rat.intCast_zero,Rat.div_def,Rat.inv_zero,Rat.mul_zero]
  refine gs2 (nt:=30) Tryz.func87 rfl rfl rfl fun a st hF=>wq<|bx st hF 0 rfl rfl fun g2 w1 a st hF=>bx st hF 2 rfl rfl fun g3 w2 a st hF=>S.alloc st hF ab rfl rfl fun g4 w3 a st hF=>ns<|wq<|oL hF st 1 1 bw rfl rfl rfl rfl fun a hF=>cX st hF (rgc Am (aG hF.o)) (eG _ _ _ (h2.below st.bel)) rfl fun w4 a st hF=>?_
  refine oT hF 0 (aV (c:=true) (eq0 (GM h0))) rfl rfl fun a hF=>E.nil<|wp_cond_true hF.o<|wq<|oV hF (bn (by simp) (jK _)) rfl fun a hF=>so st hF 0 4 0 ab rfl rfl rfl rfl fun w5 a st hF=>nr<|rs Tryz.results87 st hF 4 0 ab rfl rfl rfl ?_
  exact⟨_,rfl,Rz0 hq _,st.bel⟩
 ·have HP:=Lib.hid (Gd neg1 neg2 N1 N2 h0)
  refine gs2 (nt:=30) Tryz.func87 rfl rfl rfl fun a st hF=>wq<|bx st hF 0 rfl rfl fun g2 w1 a st hF=>bx st hF 2 rfl rfl fun g3 w2 a st hF=>S.alloc st hF ab rfl rfl fun g4 w3 a st hF=>ns<|wq<|oL hF st 1 1 bw rfl rfl rfl rfl fun a hF=>cX st hF (rgc Am (aG hF.o)) (eG _ _ _ (h2.below st.bel)) rfl fun w4 a st hF=>?_
  refine oT hF 0 (aV (c:=false) (qB (GB h0))) rfl rfl fun a hF=>E.nil<|wp_cond_false hF.o<|wp_skip<|E.norm<|wq<|oV hF (az (hF.at 5 rfl) (cI (p:=1) rfl)) rfl fun a hF=>oV hF (ar hF.o (cW (v:= .slice ad1 n1 c1) (st.b 2 rfl rfl) rfl)) rfl fun a hF=>oV hF (az (hF.at 6 rfl) (cI (p:=1) rfl)) rfl fun a hF=>oV hF (ar hF.o (cW (v:= .slice ad2 n2 c2) (st.b 1 rfl rfl) rfl)) rfl fun a hF=>S.ck st hF (rgc k64 (aL hF.q hF.o)) (bW (ov _ _ _ _ _ (hN1.below st.bel) (hN2.below st.bel))) Dg.cl rfl fun vv6 w5 a st hF=>?_
  obtain⟨ad8,n8,c8,rfl⟩:=Dg.form (st.f 0 rfl)
  refine oA hF 0 rfl rfl fun a hF=>ns ?_
  refine E.rg 15 aM hF [15,16,17,18,19,20,21,22,23,24,25,26,27,28,29] [_,_,_,_,.ex (.bool (neg1 !=neg2)),_,_,_,_,.of (fun w v=>Wg w v (neg1 !=neg2) ((N1)/(Nat.gcd (N1) (N2)))) (fun _ _ _ h hb=>h.below hb),_,_,_,_,.of (fun w v=>Rq w v ((sg neg1 N1:Rat)/(sg neg2 N2:Rat))) (fun _ _ _ h hb=>h.below hb)] (by decide+kernel) rfl rfl rfl ⟨rfd 11 (fun _=>cL (p:=0) rfl) rfl,rld rfl fun _ hb=>(bR (v:= .bool neg1) ((st.b 2 rfl rfl).below hb) rfl),rfd 10 (fun _=>cL (p:=0) rfl) rfl,rld rfl fun _ hb=>(bR (v:= .bool neg2) ((st.b 1 rfl rfl).below hb) rfl),(by intro a' w' hF' hb hd;have e16:=tE hd 0 rfl;have e18:=tE hd 1 rfl;exact dv0 (aq e16 e18 cZ (iQ (d:=(neg1 !=neg2)) rfl)) rfl rfl rfl),rfd 11 (fun _=>cI (p:=1) rfl) rfl,rld rfl fun _ hb=>(cW (v:= .slice ad1 n1 c1) ((st.b 2 rfl rfl).below hb) rfl),rm 0 rfl,ck st nG rfl fun _ s=>bW (iA _ _ _ _ _ (hN1.below s.bel) (Dg.nt (s.f 0 rfl))),(by intro a' w' hF' hb hd;have e19:=tE hd 0 rfl;obtain⟨v23_0,e23,h23_1⟩:=tH hd 1 rfl;obtain⟨ad9,n9,c9,rfl⟩:=Dg.form h23_1;exact dv0 (bn (gG e19 e23) (qV _ _ _ _ _)) (Wg.mk h23_1) rfl rfl),rfd 10 (fun _=>cI (p:=1) rfl) rfl,rld rfl fun _ hb=>(cW (v:= .slice ad2 n2 c2) ((st.b 1 rfl rfl).below hb) rfl),rm 0 rfl,ck st nG rfl fun _ s=>bW (iA _ _ _ _ _ (hN2.below s.bel) (Dg.nt (s.f 0 rfl))),ck st k93 rfl fun _ s _ x24 _ x28=>gi (JQ _ _ ((neg1 !=neg2)) ((N1)/(Nat.gcd (N1) (N2))) ((N2)/(Nat.gcd (N1) (N2))) ((sg neg1 N1:Rat)/(sg neg2 N2:Rat)) _ x24 x28 HP.out.1 HP.out.2),trivial⟩ ?_
  intro a w10 hF bb hall
  replace st:=st.to bb
  obtain⟨vv11,hF,st⟩:=rS hall hF st 14 rfl rfl Rq.cl
  obtain⟨r13,rfl⟩:=Rq.fo (st.f 0 rfl)
  clear hall bb
  refine so st hF 0 10 0 ab rfl rfl rfl rfl fun w14 a st hF=>nr<|rs Tryz.results87 st hF 10 0 ab rfl rfl rfl ?_
  exact⟨_,rfl,(st.f 0 rfl),st.bel⟩
end
section
theorem co {n:Int} (h0: -9223372036854775808<=n) (h1:n<=9223372036854775807):Lim n.natAbs 2:=Lim.of64 (by omega)
theorem fO {z y:Int} {a b:Nat} (h1:Lim z.natAbs a) (h2:Lim y.natAbs b):av ((z:Rat)/(y:Rat)) (max 1 (max a b)):=by
 rw[Rat.div_def]
 by_cases h0:y=0
 ·subst h0;rw[Rat.intCast_zero,Rat.inv_zero,Rat.mul_zero];exact jH (by omega)
 ·have e:(z:Rat)*(y:Rat)⁻¹ =mkRat (z*y.sign) y.natAbs:=by
   rw[<-Rat.div_def,<-Rat.divInt_eq_div]
   rcases Int.lt_or_gt_of_ne h0 with h|h
   ·obtain⟨m,rfl⟩:∃m:Nat,y= -(m:Int):=⟨y.natAbs,by omega⟩
    rw[Rat.divInt_neg',Rat.divInt_ofNat,Int.sign_eq_neg_one_of_neg h,Int.natAbs_neg,Int.natAbs_natCast,Int.mul_neg,Int.mul_one]
   ·obtain⟨m,rfl⟩:∃m:Nat,y=(m:Int):=⟨y.natAbs,by omega⟩
    rw[Rat.divInt_ofNat,Int.sign_eq_one_of_pos h,Int.natAbs_natCast,Int.mul_one]
  rw[e]
  refine nZ ((h1.le ?_).up _ (by omega)) (h2.up _ (by omega)) (by omega)
  rw[Int.natAbs_mul]
  have:y.sign.natAbs≤1:=by rcases Int.lt_or_gt_of_ne h0 with h|h
                           ·rw[Int.sign_eq_neg_one_of_neg h];decide
                           ·rw[Int.sign_eq_one_of_pos h];decide
  exact Nat.le_trans (Nat.mul_le_mul_left _ this) (by omega)
theorem Gk (q:Rat):sg false q.num.natAbs=q.abs.num/\q.den=q.abs.den:=by
 unfold Rat.abs
 split
 ·rename_i h
  have:=Rat.num_nonneg.2 h
  exact⟨by rw[dG];omega,rfl⟩
 ·rename_i h
  have:¬0<=q.num:=fun h'=>h (Rat.num_nonneg.1 h')
  exact⟨by rw[dG,Rat.neg_num];omega,rfl⟩
theorem tJ (v1:Value) (q1:Rat) (w:World) (h1:Rq w v1 q1):
 CQ 86 #[v1] w (-q1):=by
 obtain⟨b1,ad1,n1,c1,ae1,m1,d1,rfl,hn1,hd1⟩:=h1.shape
 have ha1:=hn1.abs
 have hb1:=hn1.neg
 refine gs1 (nt:=9) Tryz.func86 rfl rfl rfl fun a st hF=>wq<|bx st hF 0 rfl rfl fun g1 w1 a st hF=>S.alloc st hF ab rfl rfl fun g2 w2 a st hF=>ns ?_
 refine E.rg 6 aM hF [3,4,5,6,7,8] [_,_,_,_,_,.of (fun w v=>Rq w v (-q1)) (fun _ _ _ h hb=>h.below hb)] (by decide+kernel) rfl rfl rfl ⟨rfd 1 (fun _=>dH (p:=0) rfl) rfl,rld rfl fun _ hb=>(iX (vs:=[.bool b1,.slice ad1 n1 c1]) ((st.b 1 rfl rfl).below hb) rfl rfl),ck st R6 rfl fun _ s=>gN (Gc _ _ _ (Wc.wz (hn1.below s.bel))),rb st ab 1 1 rfl,ck st k62 rfl fun _ s=>bW (pY _ (q1) _ (h1.below s.bel)),ck st k93 rfl fun _ s _ x5 _ x7=>gi (ua _ _ (-(Rat.num (q1))) (Rat.den (q1)) (-q1) _ x5 x7 rfl (fun _=>rfl)),trivial⟩ ?_
 intro a w3 hF bb hall
 replace st:=st.to bb
 obtain⟨vv4,hF,st⟩:=rS hall hF st 5 rfl rfl Rq.cl
 obtain⟨r6,rfl⟩:=Rq.fo (st.f 0 rfl)
 clear hall bb
 refine so st hF 0 1 0 ab rfl rfl rfl rfl fun w7 a st hF=>nr<|rs Tryz.results86 st hF 1 0 ab rfl rfl rfl ?_
 exact⟨_,rfl,(st.f 0 rfl),st.bel⟩
theorem Hu (v1:Value) (q1:Rat) (w:World) (h1:Rq w v1 q1):
 CQ 260 #[v1] w (Rat.abs q1):=by
 obtain⟨b1,ad1,n1,c1,ae1,m1,d1,rfl,hn1,hd1⟩:=h1.shape
 have ha1:=hn1.abs
 have hb1:=hn1.neg
 have HP:=Lib.hid (Gk q1)
 refine gs1 (nt:=10) Tryz.func260 rfl rfl rfl fun a st hF=>wq<|bx st hF 0 rfl rfl fun g1 w1 a st hF=>S.alloc st hF ab rfl rfl fun g2 w2 a st hF=>ns ?_
 refine E.rg 7 aM hF [3,4,5,6,7,8,9] [_,.ex (.pointer (some ⟨g1,1,none⟩)),_,_,_,_,.of (fun w v=>Rq w v (Rat.abs q1)) (fun _ _ _ h hb=>h.below hb)] (by decide+kernel) rfl rfl rfl ⟨rfd 1 (fun _=>dH (p:=0) rfl) rfl,(by intro a' w' hF' hb hd;have e3:=tE hd 0 rfl;exact dv0 (az e3 (cI (p:=1) rfl)) rfl rfl rfl),rld rfl fun _ hb=>(cW (v:= .slice ad1 n1 c1) ((st.b 1 rfl rfl).below hb) rfl),ck st Oj rfl fun _ s=>gN (tk _ _ _ _ (Dg.nt (ha1.below s.bel))),rb st ab 1 1 rfl,ck st k62 rfl fun _ s=>bW (pY _ (q1) _ (h1.below s.bel)),ck st k93 rfl fun _ s _ x6 _ x8=>gi (ua _ _ (sg false (Int.natAbs (Rat.num (q1)))) (Rat.den (q1)) (Rat.abs q1) _ x6 x8 HP.out.1 (fun _=>HP.out.2)),trivial⟩ ?_
 intro a w3 hF bb hall
 replace st:=st.to bb
 obtain⟨vv4,hF,st⟩:=rS hall hF st 6 rfl rfl Rq.cl
 obtain⟨r6,rfl⟩:=Rq.fo (st.f 0 rfl)
 clear hall bb
 refine so st hF 0 1 0 ab rfl rfl rfl rfl fun w7 a st hF=>nr<|rs Tryz.results260 st hF 1 0 ab rfl rfl rfl ?_
 exact⟨_,rfl,(st.f 0 rfl),st.bel⟩
theorem kX (n d:Int) (w:World) (b1: -9223372036854775808<=n) (b2:n<=9223372036854775807) (b3: -9223372036854775808<=d) (b4:d<=9223372036854775807):
 CQ 36 #[iv n,iv d] w ((n:Rat)/(d:Rat)):=by
 refine gs2 (nt:=10) Tryz.func36 rfl rfl rfl fun a st hF=>wq<|S.alloc st hF ab rfl rfl fun g4 w1 a st hF=>nq<|oM hF 1 rfl rfl fun a hF=>S.ck st hF (rgc k88 (aG hF.o)) (eI (kH n _ b1 b2) (co b1 b2)) Wl.cl rfl fun vv3 w2 a st hF=>?_
 obtain⟨ad5,n5,c5,rfl,_⟩:=Wc.shape (st.f 0 rfl).1
 refine oM hF 4 rfl rfl fun a hF=>S.ck st hF (rgc k88 (aG hF.o)) (eI (kH d _ b3 b4) (co b3 b4)) Wl.cl rfl fun vv7 w6 a st hF=>?_
 obtain⟨ad9,n9,c9,rfl,_⟩:=Wc.shape (st.f 0 rfl).1
 refine S.ck st hF (rgc k87 (aL hF.q hF.o)) (bf (CA _ _ (n) (d) _ (Wc.wz (st.f 1 rfl).1) (Wc.wz (st.f 0 rfl).1)) (fO (st.f 1 rfl).2 (st.f 0 rfl).2)) Rl.cl rfl fun vv11 w10 a st hF=>?_
 obtain⟨r13,rfl⟩:=Rq.fo (st.f 0 rfl).1
 refine so st hF 0 5 0 ab rfl rfl rfl rfl fun w14 a st hF=>nr<|rs Tryz.results36 st hF 5 0 ab rfl rfl rfl ?_
 exact⟨_,rfl,((st.f 0 rfl).1),st.bel⟩
theorem gp (n:Int) (w:World) (b1: -9223372036854775808<=n) (b2:n<=9223372036854775807):
 CQ 40 #[iv n] w (n:Rat):=by
 refine gs1 (nt:=7) Tryz.func40 rfl rfl rfl fun a st hF=>wq<|S.alloc st hF ab rfl rfl fun g2 w1 a st hF=>nq<|oM hF 1 rfl rfl fun a hF=>S.ck st hF (rgc k88 (aG hF.o)) (eI (kH n _ b1 b2) (co b1 b2)) Wl.cl rfl fun vv3 w2 a st hF=>?_
 obtain⟨ad5,n5,c5,rfl,_⟩:=Wc.shape (st.f 0 rfl).1
 refine S.ck st hF (rgc k66 (aG ao)) (bW (rF 1 _ (by decide))) Dg.cl rfl fun vv7 w6 a st hF=>?_
 obtain⟨ad9,n9,c9,rfl⟩:=Dg.form (st.f 0 rfl)
 refine ca st hF (rgc k93 (aL hF.p hF.o)) (ua _ _ (n) (1) ((n:Rat)) _ (st.f 1 rfl).1 (st.f 0 rfl) rfl (fun _=>rfl)) (fun _ _ h=>h) Rq.cl rfl fun vv11 w10 a st hF=>?_
 obtain⟨r13,rfl⟩:=Rq.fo (st.f 0 rfl)
 refine so st hF 0 4 0 ab rfl rfl rfl rfl fun w14 a st hF=>nr<|rs Tryz.results40 st hF 4 0 ab rfl rfl rfl ?_
 exact⟨_,rfl,(st.f 0 rfl),st.bel⟩
theorem tN (v1 v2:Value) (q1 q2:Rat) (k:Nat) (w:World) (h1:Rq w v1 q1) (h2:Rq w v2 q2) (l1:av q1 k) (l2:av q2 k) (hk:k<=100000):
 CQ 76 #[v1,v2] w (q1+q2):=by
 obtain⟨b1,ad1,n1,c1,ae1,m1,d1,rfl,hn1,hd1⟩:=h1.shape
 have ha1:=hn1.abs
 have hb1:=hn1.neg
 obtain⟨b2,ad2,n2,c2,ae2,m2,d2,rfl,hn2,hd2⟩:=h2.shape
 have ha2:=hn2.abs
 have hb2:=hn2.neg
 have HP:=Lib.hid (Es q1 q2)
 refine gs2 (nt:=47) Tryz.func76 rfl rfl rfl fun a st hF=>wq<|bx st hF 0 rfl rfl fun g2 w1 a st hF=>bx st hF 2 rfl rfl fun g3 w2 a st hF=>S.alloc st hF ab rfl rfl fun g4 w3 a st hF=>ns ?_
 refine E.rg 6 aM hF [9,10,11,12,13,5] [_,_,_,_,_,_] (by decide+kernel) rfl rfl rfl ⟨rb st ab 2 2 rfl,ck st k83 rfl fun _ s=>bW (eh _ (q1) _ (h1.below s.bel)),rb st ab 1 1 rfl,ck st k83 rfl fun _ s=>bW (eh _ (q2) _ (h2.below s.bel)),ck st k64 rfl fun _ s _ x10 _ x12=>bW (ov _ _ _ _ _ (Dg.nt x10) (Dg.nt x12)),rv rfl,trivial⟩ ?_
 intro a w4 hF bb hall
 replace st:=st.to bb
 obtain⟨vv5,hF,st⟩:=rS hall hF st 5 rfl rfl Dg.cl
 obtain⟨ad7,n7,c7,rfl⟩:=Dg.form (st.f 0 rfl)
 clear hall bb
 refine nq<|oL hF st 3 2 ab rfl rfl rfl rfl fun a hF=>S.ck st hF (rgc k83 (aG hF.o)) (bW (eh _ (q1) _ (h1.below st.bel))) Dg.cl rfl fun vv9 w8 a st hF=>?_
 obtain⟨ad11,n11,c11,rfl⟩:=Dg.form (st.f 0 rfl)
 refine oM hF 2 rfl rfl fun a hF=>S.ck st hF (rgc nG (aL hF.p hF.o)) (bW (iA _ _ _ _ _ (Dg.nt (st.f 0 rfl)) (Dg.nt (st.f 1 rfl)))) Dg.cl rfl fun vv13 w12 a st hF=>?_
 obtain⟨ad15,n15,c15,rfl⟩:=Dg.form (st.f 0 rfl)
 refine oA hF 0 rfl rfl fun a hF=>ns ?_
 refine E.rga 13 aM hF [18,19,20,21,22,23,24,25,26,27,28,29,7] [_,_,_,_,_,_,_,_,_,_,_,_,kn w12 [.bool false,.slice none 0 0]] [12] ⟨fun _ _ ⟨g,e,_,o⟩=>⟨g,e,o.lt⟩,trivial⟩ (by decide+kernel) rfl rfl rfl ⟨rfd 8 (fun _=>dH (p:=0) rfl) rfl,rld rfl fun _ hb=>(iX (vs:=[.bool b1,.slice ad1 n1 c1]) ((st.b 2 rfl rfl).below hb) rfl rfl),rb st ab 7 1 rfl,ck st k83 rfl fun _ s=>bW (eh _ (q2) _ (h2.below s.bel)),rm 5 rfl,ck st nG rfl fun _ s _ x21=>bW (iA _ _ _ _ _ (Dg.nt x21) (Dg.nt (s.f 2 rfl))),ck st k82 rfl fun _ s _ x23=>eI (mg _ _ _ _ k k _ (Wc.wz (hn1.below s.bel)) (Dg.nt x23) (l1.1) (iH (l2.2)) (by omega) (by omega)) (df (l1.1) (iH (l2.2))),rfd 7 (fun _=>dH (p:=0) rfl) rfl,rld rfl fun _ hb=>(iX (vs:=[.bool b2,.slice ad2 n2 c2]) ((st.b 1 rfl rfl).below hb) rfl rfl),rm 0 rfl,ck st k82 rfl fun _ s=>eI (mg _ _ _ _ k k _ (Wc.wz (hn2.below s.bel)) (Dg.nt (s.f 0 rfl)) (l2.1) (iH (l1.2)) (by omega) (by omega)) (df (l2.1) (iH (l1.2))),ck st Sx rfl fun _ s _ x24 _ x28=>eI (FR _ _ _ _ (k+k) (k+k) _ (Wc.wz x24.1) (Wc.wz x28.1) x24.2 x28.2 (by omega) (by omega)) (ip x24.2 x28.2 ((k+k)+1) (by omega) (by omega)),ra bw rfl rfl,trivial⟩ ?_
 intro a w16 hF bb hall hne
 have s0:=st
 replace st:=st.to bb
 obtain⟨vv17,hF,st⟩:=rS hall hF st 11 rfl rfl Wl.cl
 obtain⟨ad19,n19,c19,rfl,_⟩:=Wc.shape (st.f 0 rfl).1
 obtain⟨_,e7,g7,rfl,ge7,o7⟩:=sS hall 12 7 rfl rfl
 replace st:=st.push o7.blk (Nat.le_trans s0.bel.size ge7) (s0.ne ge7)
 clear o7
 replace hF:=hF.add e7
 clear hall bb hne s0
 refine so st hF 0 0 1 bw rfl rfl rfl rfl fun w20 a st hF=>?_
 have hf21:=Wc.abs (st.f 0 rfl).1
 replace st:=st.add hf21 (Dg.cl _)
 clear hf21
 refine nq<|oV hF (az hF.o (cI (p:=1) rfl)) rfl fun a hF=>oV hF (ar hF.o (cW (v:= .slice ad19 n19 c19) (st.b 0 rfl rfl) rfl)) rfl fun a hF=>oM hF 9 rfl rfl fun a hF=>S.ck st hF (rgc k64 (aL hF.p hF.o)) (bW (ov _ _ _ _ _ (Dg.nt (st.f 0 rfl)) (Dg.nt (st.f 4 rfl)))) Dg.cl rfl fun vv23 w22 a st hF=>?_
 obtain⟨ad25,n25,c25,rfl⟩:=Dg.form (st.f 0 rfl)
 refine oA hF 0 rfl rfl fun a hF=>nq<|oV hF (az (hF.at 5 rfl) (cI (p:=1) rfl)) rfl fun a hF=>oV hF (ar hF.o (cW (v:= .slice ad19 n19 c19) (st.b 0 rfl rfl) rfl)) rfl fun a hF=>oM hF 2 rfl rfl fun a hF=>S.ck st hF (rgc nG (aL hF.p hF.o)) (bW (iA _ _ _ _ _ (Dg.nt (st.f 1 rfl)) (Dg.nt (st.f 0 rfl)))) Dg.cl rfl fun vv27 w26 a st hF=>?_
 obtain⟨ad29,n29,c29,rfl⟩:=Dg.form (st.f 0 rfl)
 refine oV hF (az (hF.at 9 rfl) (cI (p:=1) rfl)) rfl fun a hF=>?_
 refine S.stoo (o:=1) (vs:=[.slice ad29 n29 c29]) (ws:=[.bool (decide (((Rat.num (q1))*(((Rat.den (q2))/(Nat.gcd (Rat.den (q1)) (Rat.den (q2))):Nat):Int))+((Rat.num (q2))*(((Rat.den (q1))/(Nat.gcd (Rat.den (q1)) (Rat.den (q2))):Nat):Int))<0)),.slice ad29 n29 c29]) st hF 0 rfl hF.o hF.p rfl mN rfl rfl rfl rfl rfl fun w30 a st hF=>?_
 refine ns ?_
 refine E.rg 8 aM hF [39,40,41,42,43,44,45,46] [_,_,_,_,_,_,_,.of (fun w v=>Rq w v (q1+q2)) (fun _ _ _ h hb=>h.below hb)] (by decide+kernel) rfl rfl rfl ⟨rb st bw 10 0 rfl,rm 12 rfl,rb st ab 19 2 rfl,ck st k83 rfl fun _ s=>bW (eh _ (q2) _ (h2.below s.bel)),rm 5 rfl,ck st nG rfl fun _ s _ x42=>bW (iA _ _ _ _ _ (Dg.nt x42) (Dg.nt (s.f 1 rfl))),ck st DE rfl fun _ s _ x44=>bW (rJ _ _ _ _ _ (Dg.nt (s.f 4 rfl)) (Dg.nt x44) (Lim.dl (iH (l1.2)) _ (by omega)) (Lim.dl (iH (l2.2)) _ (by omega))),ck st k93 rfl fun _ s _ x45=>gi (nk _ _ _ ((Int.natAbs (((Rat.num (q1))*(((Rat.den (q2))/(Nat.gcd (Rat.den (q1)) (Rat.den (q2))):Nat):Int))+((Rat.num (q2))*(((Rat.den (q1))/(Nat.gcd (Rat.den (q1)) (Rat.den (q2))):Nat):Int))))/(Nat.gcd (Int.natAbs (((Rat.num (q1))*(((Rat.den (q2))/(Nat.gcd (Rat.den (q1)) (Rat.den (q2))):Nat):Int))+((Rat.num (q2))*(((Rat.den (q1))/(Nat.gcd (Rat.den (q1)) (Rat.den (q2))):Nat):Int)))) (Nat.gcd (Rat.den (q1)) (Rat.den (q2))))) (((Rat.den (q1))/(Nat.gcd (Rat.den (q1)) (Rat.den (q2))))*((Rat.den (q2))/(Nat.gcd (Int.natAbs (((Rat.num (q1))*(((Rat.den (q2))/(Nat.gcd (Rat.den (q1)) (Rat.den (q2))):Nat):Int))+((Rat.num (q2))*(((Rat.den (q1))/(Nat.gcd (Rat.den (q1)) (Rat.den (q2))):Nat):Int)))) (Nat.gcd (Rat.den (q1)) (Rat.den (q2)))))) (q1+q2) _ (s.f 0 rfl) x45 HP.out.1 (fun _=>HP.out.2)),trivial⟩ ?_
 intro a w31 hF bb hall
 replace st:=st.to bb
 obtain⟨vv32,hF,st⟩:=rS hall hF st 7 rfl rfl Rq.cl
 obtain⟨r34,rfl⟩:=Rq.fo (st.f 0 rfl)
 clear hall bb
 refine so st hF 1 19 0 ab rfl rfl rfl rfl fun w35 a st hF=>nr<|rs Tryz.results76 st hF 19 1 ab rfl rfl rfl ?_
 exact⟨_,rfl,(st.f 0 rfl),st.bel⟩
theorem yZ (v1 v2:Value) (q1 q2:Rat) (k:Nat) (w:World) (h1:Rq w v1 q1) (h2:Rq w v2 q2) (l1:av q1 k) (l2:av q2 k) (hk:k<=100000):
 CQ 104 #[v1,v2] w (q1*q2):=by
 obtain⟨b1,ad1,n1,c1,ae1,m1,d1,rfl,hn1,hd1⟩:=h1.shape
 have ha1:=hn1.abs
 have hb1:=hn1.neg
 obtain⟨b2,ad2,n2,c2,ae2,m2,d2,rfl,hn2,hd2⟩:=h2.shape
 have ha2:=hn2.abs
 have hb2:=hn2.neg
 have HP:=Fk q1 q2
 rw[<-hb1,<-hb2] at HP
 replace HP:=Lib.hid HP
 refine gs2 (nt:=52) Tryz.func104 rfl rfl rfl fun a st hF=>wq<|bx st hF 0 rfl rfl fun g2 w1 a st hF=>bx st hF 2 rfl rfl fun g3 w2 a st hF=>S.alloc st hF ab rfl rfl fun g4 w3 a st hF=>ns ?_
 refine E.rg 14 aM hF [9,10,11,12,13,14,15,16,17,18,19,20,5,6] [_,.ex (.pointer (some ⟨g2,1,none⟩)),_,_,_,_,_,.ex (.pointer (some ⟨g3,1,none⟩)),_,_,_,_,_,_] (by decide+kernel) rfl rfl rfl ⟨rfd 2 (fun _=>dH (p:=0) rfl) rfl,(by intro a' w' hF' hb hd;have e9:=tE hd 0 rfl;exact dv0 (az e9 (cI (p:=1) rfl)) rfl rfl rfl),rld rfl fun _ hb=>(cW (v:= .slice ad1 n1 c1) ((st.b 2 rfl rfl).below hb) rfl),rb st ab 1 1 rfl,ck st k83 rfl fun _ s=>bW (eh _ (q2) _ (h2.below s.bel)),ck st k64 rfl fun _ s _ x13=>bW (ov _ _ _ _ _ (Dg.nt (ha1.below s.bel)) (Dg.nt x13)),rfd 1 (fun _=>dH (p:=0) rfl) rfl,(by intro a' w' hF' hb hd;have e15:=tE hd 0 rfl;exact dv0 (az e15 (cI (p:=1) rfl)) rfl rfl rfl),rld rfl fun _ hb=>(cW (v:= .slice ad2 n2 c2) ((st.b 1 rfl rfl).below hb) rfl),rb st ab 2 2 rfl,ck st k83 rfl fun _ s=>bW (eh _ (q1) _ (h1.below s.bel)),ck st k64 rfl fun _ s _ x19=>bW (ov _ _ _ _ _ (Dg.nt (ha2.below s.bel)) (Dg.nt x19)),rv rfl,rv rfl,trivial⟩ ?_
 intro a w4 hF bb hall
 replace st:=st.to bb
 obtain⟨vv5,hF,st⟩:=rS hall hF st 12 rfl rfl Dg.cl
 obtain⟨ad7,n7,c7,rfl⟩:=Dg.form (st.f 0 rfl)
 obtain⟨vv8,hF,st⟩:=rS hall hF st 13 rfl rfl Dg.cl
 obtain⟨ad10,n10,c10,rfl⟩:=Dg.form (st.f 0 rfl)
 clear hall bb
 refine ns ?_
 refine E.rg 12 aM hF [21,22,23,24,25,26,27,28,29,30,31,7] [_,.ex (.pointer (some ⟨g2,1,none⟩)),_,_,_,_,.ex (.pointer (some ⟨g3,1,none⟩)),_,_,_,_,_] (by decide+kernel) rfl rfl rfl ⟨rfd 4 (fun _=>dH (p:=0) rfl) rfl,(by intro a' w' hF' hb hd;have e21:=tE hd 0 rfl;exact dv0 (az e21 (cI (p:=1) rfl)) rfl rfl rfl),rld rfl fun _ hb=>(cW (v:= .slice ad1 n1 c1) ((st.b 2 rfl rfl).below hb) rfl),rm 1 rfl,ck st nG rfl fun _ s=>bW (iA _ _ _ _ _ (Dg.nt (ha1.below s.bel)) (Dg.nt (s.f 1 rfl))),rfd 3 (fun _=>dH (p:=0) rfl) rfl,(by intro a' w' hF' hb hd;have e26:=tE hd 0 rfl;exact dv0 (az e26 (cI (p:=1) rfl)) rfl rfl rfl),rld rfl fun _ hb=>(cW (v:= .slice ad2 n2 c2) ((st.b 1 rfl rfl).below hb) rfl),rm 0 rfl,ck st nG rfl fun _ s=>bW (iA _ _ _ _ _ (Dg.nt (ha2.below s.bel)) (Dg.nt (s.f 0 rfl))),ck st DE rfl fun _ s _ x25 _ x30=>bW (rJ _ _ _ _ _ (Dg.nt x25) (Dg.nt x30) (Lim.dl (iH (l1.1)) _ (by omega)) (Lim.dl (iH (l2.1)) _ (by omega))),rv rfl,trivial⟩ ?_
 intro a w11 hF bb hall
 replace st:=st.to bb
 obtain⟨vv12,hF,st⟩:=rS hall hF st 11 rfl rfl Dg.cl
 obtain⟨ad14,n14,c14,rfl⟩:=Dg.form (st.f 0 rfl)
 clear hall bb
 refine ns ?_
 refine E.rg 10 aM hF [32,33,34,35,36,37,38,39,40,8] [_,_,_,_,_,_,_,_,_,_] (by decide+kernel) rfl rfl rfl ⟨rb st ab 5 2 rfl,ck st k83 rfl fun _ s=>bW (eh _ (q1) _ (h1.below s.bel)),rm 1 rfl,ck st nG rfl fun _ s _ x33=>bW (iA _ _ _ _ _ (Dg.nt x33) (Dg.nt (s.f 1 rfl))),rb st ab 4 1 rfl,ck st k83 rfl fun _ s=>bW (eh _ (q2) _ (h2.below s.bel)),rm 2 rfl,ck st nG rfl fun _ s _ x37=>bW (iA _ _ _ _ _ (Dg.nt x37) (Dg.nt (s.f 2 rfl))),ck st DE rfl fun _ s _ x35 _ x39=>bW (rJ _ _ _ _ _ (Dg.nt x35) (Dg.nt x39) (Lim.dl (iH (l1.2)) _ (by omega)) (Lim.dl (iH (l2.2)) _ (by omega))),rv rfl,trivial⟩ ?_
 intro a w15 hF bb hall
 replace st:=st.to bb
 obtain⟨vv16,hF,st⟩:=rS hall hF st 9 rfl rfl Dg.cl
 obtain⟨ad18,n18,c18,rfl⟩:=Dg.form (st.f 0 rfl)
 clear hall bb
 refine nq<|oV hF (az (hF.at 6 rfl) (dH (p:=0) rfl)) rfl fun a hF=>oV hF (az hF.o (cL (p:=0) rfl)) rfl fun a hF=>oV hF (ar hF.o (bR (v:= .bool b1) (st.b 2 rfl rfl) rfl)) rfl fun a hF=>oV hF (az (hF.at 8 rfl) (dH (p:=0) rfl)) rfl fun a hF=>oV hF (az hF.o (cL (p:=0) rfl)) rfl fun a hF=>oV hF (ar hF.o (bR (v:= .bool b2) (st.b 1 rfl rfl) rfl)) rfl fun a hF=>oV hF (aq (hF.at 3 rfl) hF.o cZ (iQ (d:=(b1 !=b2)) rfl)) rfl fun a hF=>oM hF 8 rfl rfl fun a hF=>oV hF (bn (gG hF.p hF.o) (qV _ _ _ _ _)) rfl fun a hF=>oM hF 9 rfl rfl fun a hF=>?_
 refine ca st hF (rgc k93 (aL hF.p hF.o)) (nk _ _ _ (((Int.natAbs (Rat.num (q1)))/(Nat.gcd (Int.natAbs (Rat.num (q1))) (Rat.den (q2))))*((Int.natAbs (Rat.num (q2)))/(Nat.gcd (Int.natAbs (Rat.num (q2))) (Rat.den (q1))))) (((Rat.den (q1))/(Nat.gcd (Int.natAbs (Rat.num (q2))) (Rat.den (q1))))*((Rat.den (q2))/(Nat.gcd (Int.natAbs (Rat.num (q1))) (Rat.den (q2))))) (q1*q2) _ (st.f 1 rfl) (st.f 0 rfl) HP.out.1 (fun _=>HP.out.2)) (fun _ _ h=>h) Rq.cl rfl fun vv20 w19 a st hF=>?_
 obtain⟨r22,rfl⟩:=Rq.fo (st.f 0 rfl)
 refine so st hF 0 15 0 ab rfl rfl rfl rfl fun w23 a st hF=>nr<|rs Tryz.results104 st hF 15 0 ab rfl rfl rfl ?_
 exact⟨_,rfl,(st.f 0 rfl),st.bel⟩
theorem I4 (v1 v2:Value) (q1 q2:Rat) (k:Nat) (w:World) (h1:Rq w v1 q1) (h2:Rq w v2 q2) (l1:av q1 k) (l2:av q2 k) (hk:k<=100000):
 CQ 35 #[v1,v2] w (q1-q2):=by
 obtain⟨r1,rfl⟩:=h1.fo
 obtain⟨r2,rfl⟩:=h2.fo
 refine gs2 (nt:=9) Tryz.func35 rfl rfl rfl fun a st hF=>wq<|bx st hF 0 rfl rfl fun g2 w1 a st hF=>bx st hF 2 rfl rfl fun g3 w2 a st hF=>S.alloc st hF ab rfl rfl fun g4 w3 a st hF=>ns<|gz2 4 aM st hF ab 0 0 [5,6,7,8] [_,_,_,_] (by decide+kernel) rfl rfl rfl ⟨rb st ab 2 2 rfl,rb st ab 1 1 rfl,ck st k86 rfl fun _ s=>bf (tJ _ (q2) _ (h2.below s.bel)) (gF l2),ck st k76 rfl fun _ s _ x7=>bf (tN _ _ (q1) (-(q2)) k _ (h1.below s.bel) x7.1 (l1.up _ (by omega)) (x7.2.up _ (by omega)) (by omega)) (bP l1 x7.2),trivial⟩ fun r7 w8 a st hF=>?_
 refine nr<|rs Tryz.results35 st hF 1 0 ab rfl rfl rfl ?_
 exact⟨_,rfl,by rw[Rat.sub_eq_add_neg];exact ((st.f 0 rfl).1),st.bel⟩
theorem G7 (v1 v2:Value) (q1 q2:Rat) (k:Nat) (w:World) (h1:Rq w v1 q1) (h2:Rq w v2 q2) (l1:av q1 k) (l2:av q2 k) (hk:k<=100000):
 CQ 175 #[v1,v2] w (q1/q2):=by
 obtain⟨b1,ad1,n1,c1,ae1,m1,d1,rfl,hn1,hd1⟩:=h1.shape
 have ha1:=hn1.abs
 have hb1:=hn1.neg
 obtain⟨b2,ad2,n2,c2,ae2,m2,d2,rfl,hn2,hd2⟩:=h2.shape
 have ha2:=hn2.abs
 have hb2:=hn2.neg
 by_cases h0:q2=0
 ·have hq:q1/q2=0:=by rw[h0,Rat.div_def,Rat.inv_zero,Rat.mul_zero]
  have hn0:=Rat.num_eq_zero.2 h0
  clear h0
  refine gs2 (nt:=21) Tryz.func175 rfl rfl rfl fun a st hF=>wq<|bx st hF 0 rfl rfl fun g2 w1 a st hF=>bx st hF 2 rfl rfl fun g3 w2 a st hF=>S.alloc st hF ab rfl rfl fun g4 w3 a st hF=>ns<|wq<|oL hF st 1 1 ab rfl rfl rfl rfl fun a hF=>cX st hF (rgc nO (aG hF.o)) (gv _ (q2) _ (h2.below st.bel)) rfl fun w4 a st hF=>?_
  refine oT hF 0 (aV (c:=true) (eq0 (qE.2 hn0))) rfl rfl fun a hF=>E.nil<|wp_cond_true hF.o<|wq<|oV hF (bn (by simp) (jK _)) rfl fun a hF=>so st hF 0 4 0 ab rfl rfl rfl rfl fun w5 a st hF=>nr<|rs Tryz.results175 st hF 4 0 ab rfl rfl rfl ?_
  exact⟨_,rfl,Rz0 hq _,st.bel⟩
 ·have hn0:=Gs h0
  have HV1:dn q2≠0:=by rw[xE h0];exact q2.den_nz
  have HV2:sg b2 (dn q2)=(q2⁻¹).num :=by rw[hb2,xE h0];exact(qw h0).1
  have HV3:=(qw h0).2
  refine gs2 (nt:=21) Tryz.func175 rfl rfl rfl fun a st hF=>wq<|bx st hF 0 rfl rfl fun g2 w1 a st hF=>bx st hF 2 rfl rfl fun g3 w2 a st hF=>S.alloc st hF ab rfl rfl fun g4 w3 a st hF=>ns<|wq<|oL hF st 1 1 ab rfl rfl rfl rfl fun a hF=>cX st hF (rgc nO (aG hF.o)) (gv _ (q2) _ (h2.below st.bel)) rfl fun w4 a st hF=>?_
  refine oT hF 0 (aV (c:=false) (qB (fun e=>hn0 (qE.1 e)))) rfl rfl fun a hF=>E.nil<|wp_cond_false hF.o<|wp_skip<|E.norm<|wq<|oL hF st 5 2 ab rfl rfl rfl rfl fun a hF=>oV hF (az (hF.at 5 rfl) (dH (p:=0) rfl)) rfl fun a hF=>oV hF (az hF.o (cL (p:=0) rfl)) rfl fun a hF=>oV hF (ar hF.o (bR (v:= .bool b2) (st.b 1 rfl rfl) rfl)) rfl fun a hF=>oV hF (az (hF.at 8 rfl) (pT (p:=2) rfl)) rfl fun a hF=>oV hF (ar hF.o (cW (v:= .slice ae2 m2 d2) (st.b 1 rfl rfl) rfl)) rfl fun a hF=>oV hF (bn (gG hF.q hF.o) (qV _ _ _ _ _)) rfl fun a hF=>?_
  refine oV hF (az (hF.at 11 rfl) (dH (p:=0) rfl)) rfl fun a hF=>oV hF (az hF.o (cI (p:=1) rfl)) rfl fun a hF=>oV hF (ar hF.o (cW (v:= .slice ad2 n2 c2) (st.b 1 rfl rfl) rfl)) rfl fun a hF=>oV hF (bn (gG (hF.at 3 rfl) hF.o) (wO _ _ _ _ _ _ _ _)) rfl fun a hF=>S.ck st hF (rgc dB (aL (hF.at 10 rfl) hF.o)) (bf (yZ _ _ (q1) (q2⁻¹) k _ (h1.below st.bel) (Rq.mk (hd2.below st.bel) (ha2.below st.bel) HV1 HV2 HV3) (l1.up _ (by omega)) ((tj l2).up _ (by omega)) (by omega)) (bm l1 (tj l2))) Rl.cl rfl fun vv6 w5 a st hF=>?_
  obtain⟨r8,rfl⟩:=Rq.fo (st.f 0 rfl).1
  refine so st hF 0 15 0 ab rfl rfl rfl rfl fun w9 a st hF=>nr<|rs Tryz.results175 st hF 15 0 ab rfl rfl rfl ?_
  exact⟨_,rfl,by rw[Rat.div_def];exact ((st.f 0 rfl).1),st.bel⟩
theorem uj (v1 v2:Value) (q1 q2:Rat) (k:Nat) (w:World) (h1:Rq w v1 q1) (h2:Rq w v2 q2) (l1:av q1 k) (l2:av q2 k) (hk:k<=100000):
 CP 31 #[v1,v2] w (jP w (qc q1 q2)):=by
 obtain⟨b1,ad1,n1,c1,ae1,m1,d1,rfl,hn1,hd1⟩:=h1.shape
 have ha1:=hn1.abs
 have hb1:=hn1.neg
 obtain⟨b2,ad2,n2,c2,ae2,m2,d2,rfl,hn2,hd2⟩:=h2.shape
 have ha2:=hn2.abs
 have hb2:=hn2.neg
 refine gs2 (nt:=16) Tryz.func31 rfl rfl rfl fun a st hF=>wq<|bx st hF 0 rfl rfl fun g2 w1 a st hF=>bx st hF 2 rfl rfl fun g3 w2 a st hF=>?_
 refine oC hF rfl fun a hF=>ns ?_
 refine E.rg 11 aM hF [5,6,7,8,9,10,11,12,13,14,15] [_,_,_,_,_,_,_,_,_,_,_] (by decide+kernel) rfl rfl rfl ⟨rfd 2 (fun _=>dH (p:=0) rfl) rfl,rld rfl fun _ hb=>(iX (vs:=[.bool b1,.slice ad1 n1 c1]) ((st.b 1 rfl rfl).below hb) rfl rfl),rb st ab 1 0 rfl,ck st k83 rfl fun _ s=>bW (eh _ (q2) _ (h2.below s.bel)),ck st k82 rfl fun _ s _ x8=>eI (mg _ _ _ _ k k _ (Wc.wz (hn1.below s.bel)) (Dg.nt x8) (l1.1) (l2.2) (by omega) (by omega)) (df (l1.1) (l2.2)),rfd 1 (fun _=>dH (p:=0) rfl) rfl,rld rfl fun _ hb=>(iX (vs:=[.bool b2,.slice ad2 n2 c2]) ((st.b 0 rfl rfl).below hb) rfl rfl),rb st ab 2 1 rfl,ck st k83 rfl fun _ s=>bW (eh _ (q1) _ (h1.below s.bel)),ck st k82 rfl fun _ s _ x13=>eI (mg _ _ _ _ k k _ (Wc.wz (hn2.below s.bel)) (Dg.nt x13) (l2.1) (l1.2) (by omega) (by omega)) (df (l2.1) (l1.2)),ck st k79 rfl fun _ s _ x9 _ x14=>bD (qK _ _ _ _ _ (Wc.wz x9.1) (Wc.wz x14.1)),trivial⟩ ?_
 intro a w3 hF bb hall
 replace st:=st.to bb
 replace hF:=rE hall hF 10 rfl rfl
 clear hall bb
 refine oE hF 0 rfl rfl fun a hF=>nr ?_
 have bel:=st.bel
 refine rt Tryz.results31 hF 0 rfl ?_
 exact⟨rfl,bel⟩
end
end
end Go.Proofs.YtgdpkknapcgcbaaGreatDoor
