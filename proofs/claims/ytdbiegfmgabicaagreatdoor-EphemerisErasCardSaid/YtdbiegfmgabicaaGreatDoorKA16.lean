import Derived.Test.YtdbiegfmgabicaaGreatDoorKA15
namespace Go.Proofs.YtdbiegfmgabicaaGreatDoor
open Go.RowKit
set_option maxRecDepth 100000
set_option linter.unusedVariables false
set_option maxHeartbeats 8000000
section
section
theorem gI (v1 v2:Value) (N M:Nat) (w:World) (h1:Nt w v1 N) (h2:Nt w v2 M):
 Calls Tryz.prog 95 #[v1,v2] w (i9 w (N/M)):=by
 have st:=St.start w
 refine go2 (nt:=14) Tryz.func95 rfl rfl rfl fun a hF=>?_
 refine wq ?_
 refine oC hF rfl fun a hF=>nq ?_
 refine oM hF 1 rfl rfl fun a hF=>oM hF 3 rfl rfl fun a hF=>?_
 refine S.call2 st hF (rgc K8 (aI hF.p hF.o)) (rp _ _ _ _ _ (h1.below st.bel) (h2.below st.bel)) (fun _ _ h=>h) Dg.cl Dg.cl rfl rfl rfl rfl fun vv2 vv3 w1 a st hF=>?_
 obtain⟨ad6,n6,c6,rfl⟩:=Dg.form (st.f 0 rfl)
 obtain⟨ad7,n7,c7,rfl⟩:=Dg.form (st.f 1 rfl)
 refine oM hF 0 rfl rfl fun a hF=>oV hF (aR (v:= .slice ad6 n6 c6) hF.o rfl) rfl fun a hF=>oV hF (aR (v:= .slice ad7 n7 c7) hF.p rfl) rfl fun a hF=>oA hF 1 rfl rfl fun a hF=>oA hF 1 rfl rfl fun a hF=>nq ?_
 refine oM hF 1 rfl rfl fun a hF=>oE hF 0 rfl rfl fun a hF=>nr ?_
 have bel:=st.bel
 refine rt Tryz.results95 hF 0 rfl ?_
 have hh4:=(st.f 0 rfl)
 exact⟨_,rfl,hh4,bel⟩
theorem kd (v1 v2:Value) (z:Int) (N j k:Nat) (w:World) (h1:Wz w v1 z) (h2:Nt w v2 N) (l1:Lim z.natAbs j) (l2:Lim N k) (hj:j≤1000000) (hk:k≤1000000):
 Calls Tryz.prog 53 #[v1,v2] w (eZ w (z*(N:Int))):=by
 obtain⟨neg1,ad1,n1,c1,N1,rfl,hN1,rfl⟩:=h1.shape
 have h1:Wz w (.agg #[.bool neg1,.slice ad1 n1 c1]) (sg neg1 N1):=⟨_,_,_,rfl,hN1,rfl⟩
 obtain⟨ad2,n2,c2,rfl⟩:=h2.form
 have st:=St.start w
 refine go2 (nt:=9) Tryz.func53 rfl rfl rfl fun a hF=>?_
 refine wq ?_
 refine bx st hF 0 rfl rfl fun g2 w1 a st hF=>?_
 refine S.alloc st hF bq rfl rfl fun g4 w2 a st hF=>?_
 refine nq ?_
 refine oL hF st 1 1 bq rfl rfl rfl rfl fun a hF=>oM hF 4 rfl rfl fun a hF=>oV hF (bh (fx hF.o) (qn _ _ _ _)) rfl fun a hF=>?_
 refine S.ck st hF (rgc OK (aI hF.q hF.o)) (d7 (C2 _ _ _ _ j k _ (h1.below st.bel) (Wz.mk (h2.below st.bel)) l1 (jN _ l2) (by omega) (by omega)) (cR l1 (jN _ l2))) Wl.cl rfl fun vv4 w3 a st hF=>?_
 obtain⟨ad6,n6,c6,rfl,_⟩:=Wc.shape (st.f 0 rfl).1
 refine so st hF 0 4 0 bq rfl rfl rfl rfl fun w7 a st hF=>?_
 have hf8:=Wc.abs (st.f 0 rfl).1
 replace st:=st.add hf8 (Dg.cl _)
 clear hf8
 refine nr ?_
 refine rs Tryz.results53 st hF 4 0 bq rfl rfl rfl ?_
 have bel:=st.bel
 have hh5:=(st.f 1 rfl).1
 exact⟨_,rfl,hh5,bel⟩
theorem dM (v1:Value) (q1:Rat) (w:World) (h1:Rq w v1 q1):
 Calls Tryz.prog 54 #[v1] w (i9 w (q1.den)):=by
 obtain⟨b1,ad1,n1,c1,ae1,m1,d1,rfl,hn1,hd1⟩:=h1.shape
 have h1:Rq w (.agg #[.bool b1,.slice ad1 n1 c1,.slice ae1 m1 d1]) q1:=⟨_,_,_,_,_,_,_,rfl,hn1,hd1⟩
 have ha1:=hn1.abs
 have hb1:=hn1.neg
 by_cases h0:q1=0
 ·subst h0
  rw[yq] at hd1
  have hm:=hd1.len0
  clear h1
  have st:=St.start w
  refine go1 (nt:=10) Tryz.func54 rfl rfl rfl fun a hF=>?_
  refine wq ?_
  refine bx st hF 0 rfl rfl fun g1 w1 a st hF=>?_
  refine oC hF rfl fun a hF=>ns ?_
  refine wq ?_
  refine oV hF (av hF.p (mT (p:=2) rfl)) rfl fun a hF=>oV hF (au hF.o (cO (v:= .slice ae1 m1 d1) (st.b 0 rfl rfl) rfl)) rfl fun a hF=>oV hF (bI (aD hF.o) wQ) rfl fun a hF=>oT hF 0 (a6 (c:=true) (eq0 (by rw[hm];rfl))) rfl rfl fun a hF=>?_
  refine E.nil ?_
  refine wp_cond_true hF.o ?_
  refine wq ?_
  refine S.ck st hF (rgc k58 (aD ar)) (bU (oD 1 _ (by decide))) Dg.cl rfl fun vv3 w2 a st hF=>?_
  obtain⟨ad5,n5,c5,rfl⟩:=Dg.form (st.f 0 rfl)
  refine oE hF 0 rfl rfl fun a hF=>nr ?_
  have bel:=st.bel
  refine rt Tryz.results54 hF 0 rfl ?_
  have hh4:=(st.f 0 rfl)
  exact⟨_,rfl,hh4,bel⟩
 ·rw[uy h0] at hd1
  have hm:=hd1.lenp aO (Rat.den_pos q1)
  clear h1
  have st:=St.start w
  refine go1 (nt:=10) Tryz.func54 rfl rfl rfl fun a hF=>?_
  refine wq ?_
  refine bx st hF 0 rfl rfl fun g1 w1 a st hF=>?_
  refine oC hF rfl fun a hF=>ns ?_
  refine wq ?_
  refine oV hF (av hF.p (mT (p:=2) rfl)) rfl fun a hF=>oV hF (au hF.o (cO (v:= .slice ae1 m1 d1) (st.b 0 rfl rfl) rfl)) rfl fun a hF=>oV hF (bI (aD hF.o) wQ) rfl fun a hF=>oT hF 0 (a6 (c:=false) (oN (by omega))) rfl rfl fun a hF=>?_
  refine E.nil ?_
  refine wp_cond_false hF.o ?_
  refine wp_skip ?_
  refine E.norm ?_
  refine wq ?_
  refine oV hF (av (hF.at 5 rfl) (mT (p:=2) rfl)) rfl fun a hF=>oV hF (au hF.o (cO (v:= .slice ae1 m1 d1) (st.b 0 rfl rfl) rfl)) rfl fun a hF=>oE hF 0 rfl rfl fun a hF=>nr ?_
  have bel:=st.bel
  refine rt Tryz.results54 hF 0 rfl ?_
  have hd1:=(hd1.below st.bel)
  exact⟨_,rfl,hd1,bel⟩
theorem Rz0 {q:Rat} (h:q=0) (w:World):Rq w (.agg #[.bool false,.slice none 0 0,.slice none 0 0]) q:=by subst h;exact Rq.zero w
theorem lI (b:Bool) (s v2:Value) (N D:Nat) (q:Rat) (w:World) (h1:Dg w .u32 B32 s N) (h2:Dg w .u32 B32 v2 D) (hz:sg b N=q.num) (hd:N≠0→D=q.den):
 Calls Tryz.prog 56 #[.agg #[.bool b,s],v2] w (bl w q):=by
 obtain⟨ad1,n1,c1,rfl⟩:=h1.form
 obtain⟨ae1,m1,d1,rfl⟩:=h2.form
 have hg:Wg w (.agg #[.bool b,.slice ad1 n1 c1]) b N:=Wg.mk h1
 by_cases h0:N=0
 ·have hq:q=0:=Rat.num_eq_zero.1 (by rw[←hz,h0,fq])
  have st:=St.start w
  refine go2 (nt:=12) Tryz.func56 rfl rfl rfl fun a hF=>?_
  refine wq ?_
  refine bx st hF 0 rfl rfl fun g2 w1 a st hF=>?_
  refine S.alloc st hF aa rfl rfl fun g4 w2 a st hF=>?_
  refine ns ?_
  refine wq ?_
  refine oL hF st 1 1 bq rfl rfl rfl rfl fun a hF=>?_
  refine cX st hF (rgc k52 (aD hF.o)) (dY _ _ _ (Wg.wz (hg.below st.bel))) rfl fun w3 a st hF=>?_
  refine oT hF 0 (a6 (c:=true) (eq0 (BS h0))) rfl rfl fun a hF=>?_
  refine E.nil ?_
  refine wp_cond_true hF.o ?_
  refine wq ?_
  refine oV hF (bh (by simp) (iJ _)) rfl fun a hF=>?_
  refine so st hF 0 4 0 aa rfl rfl rfl rfl fun w4 a st hF=>?_
  refine nr ?_
  refine rs Tryz.results56 st hF 4 0 aa rfl rfl rfl ?_
  have bel:=st.bel
  exact⟨_,rfl,Rz0 hq _,bel⟩
 ·have st:=St.start w
  refine go2 (nt:=12) Tryz.func56 rfl rfl rfl fun a hF=>?_
  refine wq ?_
  refine bx st hF 0 rfl rfl fun g2 w1 a st hF=>?_
  refine S.alloc st hF aa rfl rfl fun g4 w2 a st hF=>?_
  refine ns ?_
  refine wq ?_
  refine oL hF st 1 1 bq rfl rfl rfl rfl fun a hF=>?_
  refine cX st hF (rgc k52 (aD hF.o)) (dY _ _ _ (Wg.wz (hg.below st.bel))) rfl fun w3 a st hF=>?_
  refine oT hF 0 (a6 (c:=false) (oN (CV h0))) rfl rfl fun a hF=>?_
  refine E.nil ?_
  refine wp_cond_false hF.o ?_
  refine wp_skip ?_
  refine E.norm ?_
  refine wq ?_
  refine oL hF st 4 1 bq rfl rfl rfl rfl fun a hF=>oM hF 7 rfl rfl fun a hF=>oV hF (bh (fN hF.p hF.o) (uf _ _ _ _ _ _ _ _)) rfl fun a hF=>?_
  refine so st hF 0 6 0 aa rfl rfl rfl rfl fun w4 a st hF=>?_
  refine nr ?_
  refine rs Tryz.results56 st hF 6 0 aa rfl rfl rfl ?_
  have bel:=st.bel
  have h1:=(h1.below st.bel)
  have h2:=(h2.below st.bel)
  exact⟨_,rfl,Rq.mk h1 h2 h0 hz (hd h0),bel⟩
theorem EU (v1 v2:Value) (b:Bool) (N D:Nat) (q:Rat) (w:World) (h1:Wg w v1 b N) (h2:Dg w .u32 B32 v2 D) (hz:sg b N=q.num) (hd:N≠0→D=q.den):Calls Tryz.prog 56 #[v1,v2] w (bl w q):=by
 obtain⟨s,rfl,h⟩:=h1
 exact lI b s v2 N D q w h h2 hz hd
theorem qI (v1 v2:Value) (z:Int) (D:Nat) (q:Rat) (w:World) (h1:Wc w v1 z) (h2:Dg w .u32 B32 v2 D) (hz:z=q.num) (hd:z≠0→D=q.den):Calls Tryz.prog 56 #[v1,v2] w (bl w q):=by
 obtain⟨s,rfl,h⟩:=h1
 exact lI _ s v2 z.natAbs D q w h h2 ((kI z).trans hz) (fun hn=>hd (by omega))
theorem ev (v1:Value) (q1:Rat) (w:World) (h1:Rq w v1 q1):
 Calls Tryz.prog 28 #[v1] w (iL w (sz q1.num)):=by
 obtain⟨b1,ad1,n1,c1,ae1,m1,d1,rfl,hn1,hd1⟩:=h1.shape
 have h1:Rq w (.agg #[.bool b1,.slice ad1 n1 c1,.slice ae1 m1 d1]) q1:=⟨_,_,_,_,_,_,_,rfl,hn1,hd1⟩
 have ha1:=hn1.abs
 have hb1:=hn1.neg
 have st:=St.start w
 refine go1 (nt:=6) Tryz.func28 rfl rfl rfl fun a hF=>?_
 refine wq ?_
 refine bx st hF 0 rfl rfl fun g1 w1 a st hF=>?_
 refine oC hF rfl fun a hF=>nq ?_
 refine oV hF (av hF.p (du (p:=0) rfl)) rfl fun a hF=>oV hF (au hF.o (gU (vs:=[.bool b1,.slice ad1 n1 c1]) (st.b 0 rfl rfl) rfl rfl)) rfl fun a hF=>?_
 refine cX st hF (rgc k52 (aD hF.o)) (dY _ _ _ (Wc.wz (hn1.below st.bel))) rfl fun w2 a st hF=>?_
 refine oE hF 0 rfl rfl fun a hF=>nr ?_
 have bel:=st.bel
 refine rt Tryz.results28 hF 0 rfl ?_
 exact⟨rfl,bel⟩
theorem xh (v1:Value) (q1:Rat) (w:World) (h1:Rq w v1 q1):
 Calls Tryz.prog 91 #[v1] w (eZ w (q1.num)):=by
 obtain⟨b1,ad1,n1,c1,ae1,m1,d1,rfl,hn1,hd1⟩:=h1.shape
 have h1:Rq w (.agg #[.bool b1,.slice ad1 n1 c1,.slice ae1 m1 d1]) q1:=⟨_,_,_,_,_,_,_,rfl,hn1,hd1⟩
 have ha1:=hn1.abs
 have hb1:=hn1.neg
 have ES:=Lib.hid (show sg b1 (Int.natAbs (Rat.num q1))=q1.num by rw[hb1,kI])
 have st:=St.start w
 refine go1 (nt:=10) Tryz.func91 rfl rfl rfl fun a hF=>?_
 refine wq ?_
 refine bx st hF 0 rfl rfl fun g1 w1 a st hF=>?_
 refine S.alloc st hF bq rfl rfl fun g2 w2 a st hF=>?_
 refine nq ?_
 refine oV hF (av hF.p (du (p:=0) rfl)) rfl fun a hF=>oV hF (av hF.o (cC (p:=0) rfl)) rfl fun a hF=>oV hF (au hF.o (bR (v:= .bool b1) (st.b 1 rfl rfl) rfl)) rfl fun a hF=>oV hF (av (hF.at 4 rfl) (du (p:=0) rfl)) rfl fun a hF=>oV hF (av hF.o (cw (p:=1) rfl)) rfl fun a hF=>oV hF (au hF.o (cO (v:= .slice ad1 n1 c1) (st.b 1 rfl rfl) rfl)) rfl fun a hF=>?_
 refine S.ck st hF (rgc Lk (aI (hF.at 3 rfl) hF.o)) (fV (qj _ _ _ _ (Dg.nt (ha1.below st.bel)))) Wc.cl rfl fun vv4 w3 a st hF=>?_
 obtain⟨ad6,n6,c6,rfl,_⟩:=Wc.shape (st.f 0 rfl)
 refine so st hF 0 7 0 bq rfl rfl rfl rfl fun w7 a st hF=>?_
 have hf8:=Wc.abs (st.f 0 rfl)
 replace st:=st.add hf8 (Dg.cl _)
 clear hf8
 refine nr ?_
 refine rs Tryz.results91 st hF 7 0 bq rfl rfl rfl ?_
 have bel:=st.bel
 have hh5:=(st.f 1 rfl)
 exact⟨_,rfl,Wc.cast hh5 ES.out,bel⟩
theorem mS (v1:Value) (q1:Rat) (w:World) (h1:Rq w v1 q1):
 Calls Tryz.prog 99 #[v1] w (i9 w (q1.den)):=by
 obtain⟨r1,rfl⟩:=h1.fo
 have st:=St.start w
 refine go1 (nt:=6) Tryz.func99 rfl rfl rfl fun a hF=>?_
 refine wq ?_
 refine bx st hF 0 rfl rfl fun g1 w1 a st hF=>?_
 refine oC hF rfl fun a hF=>nq ?_
 refine oL hF st 1 0 aa rfl rfl rfl rfl fun a hF=>?_
 refine S.ck st hF (rgc k54 (aD hF.o)) (bU (dM _ (q1) _ (h1.below st.bel))) Dg.cl rfl fun vv3 w2 a st hF=>?_
 obtain⟨ad5,n5,c5,rfl⟩:=Dg.form (st.f 0 rfl)
 refine S.ck st hF (rgc NY (aD hF.o)) (bU (yd _ _ _ (Dg.nt (st.f 0 rfl)))) Dg.cl rfl fun vv7 w6 a st hF=>?_
 obtain⟨ad9,n9,c9,rfl⟩:=Dg.form (st.f 0 rfl)
 refine oE hF 0 rfl rfl fun a hF=>nr ?_
 have bel:=st.bel
 refine rt Tryz.results99 hF 0 rfl ?_
 have hh8:=(st.f 0 rfl)
 exact⟨_,rfl,hh8,bel⟩
theorem zq (v1 v2:Value) (z1 z2:Int) (w:World) (h1:Wz w v1 z1) (h2:Wz w v2 z2):
 Calls Tryz.prog 93 #[v1,v2] w (bl w ((z1:Rat)/(z2:Rat))):=by
 obtain⟨neg1,ad1,n1,c1,N1,rfl,hN1,rfl⟩:=h1.shape
 have h1:Wz w (.agg #[.bool neg1,.slice ad1 n1 c1]) (sg neg1 N1):=⟨_,_,_,rfl,hN1,rfl⟩
 obtain⟨neg2,ad2,n2,c2,N2,rfl,hN2,rfl⟩:=h2.shape
 have h2:Wz w (.agg #[.bool neg2,.slice ad2 n2 c2]) (sg neg2 N2):=⟨_,_,_,rfl,hN2,rfl⟩
 by_cases h0:N2=0
 ·have hq:(sg neg1 N1:Rat)/(sg neg2 N2:Rat)=0:=by rw[h0,fq,Rat.intCast_zero,Rat.div_def,Rat.inv_zero,Rat.mul_zero]
  have st:=St.start w
  refine go2 (nt:=30) Tryz.func93 rfl rfl rfl fun a hF=>?_
  refine wq ?_
  refine bx st hF 0 rfl rfl fun g2 w1 a st hF=>?_
  refine bx st hF 2 rfl rfl fun g3 w2 a st hF=>?_
  refine S.alloc st hF aa rfl rfl fun g4 w3 a st hF=>?_
  refine ns ?_
  refine wq ?_
  refine oL hF st 1 1 bq rfl rfl rfl rfl fun a hF=>?_
  refine cX st hF (rgc k52 (aD hF.o)) (dY _ _ _ (h2.below st.bel)) rfl fun w4 a st hF=>?_
  refine oT hF 0 (a6 (c:=true) (eq0 (BS h0))) rfl rfl fun a hF=>?_
  refine E.nil ?_
  refine wp_cond_true hF.o ?_
  refine wq ?_
  refine oV hF (bh (by simp) (iJ _)) rfl fun a hF=>?_
  refine so st hF 0 4 0 aa rfl rfl rfl rfl fun w5 a st hF=>?_
  refine nr ?_
  refine rs Tryz.results93 st hF 4 0 aa rfl rfl rfl ?_
  have bel:=st.bel
  exact⟨_,rfl,Rz0 hq _,bel⟩
 ·have HP:=Lib.hid (Br neg1 neg2 N1 N2 h0)
  have st:=St.start w
  refine go2 (nt:=30) Tryz.func93 rfl rfl rfl fun a hF=>?_
  refine wq ?_
  refine bx st hF 0 rfl rfl fun g2 w1 a st hF=>?_
  refine bx st hF 2 rfl rfl fun g3 w2 a st hF=>?_
  refine S.alloc st hF aa rfl rfl fun g4 w3 a st hF=>?_
  refine ns ?_
  refine wq ?_
  refine oL hF st 1 1 bq rfl rfl rfl rfl fun a hF=>?_
  refine cX st hF (rgc k52 (aD hF.o)) (dY _ _ _ (h2.below st.bel)) rfl fun w4 a st hF=>?_
  refine oT hF 0 (a6 (c:=false) (oN (CV h0))) rfl rfl fun a hF=>?_
  refine E.nil ?_
  refine wp_cond_false hF.o ?_
  refine wp_skip ?_
  refine E.norm ?_
  refine wq ?_
  refine oV hF (av (hF.at 5 rfl) (cw (p:=1) rfl)) rfl fun a hF=>oV hF (au hF.o (cO (v:= .slice ad1 n1 c1) (st.b 2 rfl rfl) rfl)) rfl fun a hF=>oV hF (av (hF.at 6 rfl) (cw (p:=1) rfl)) rfl fun a hF=>oV hF (au hF.o (cO (v:= .slice ad2 n2 c2) (st.b 1 rfl rfl) rfl)) rfl fun a hF=>?_
  refine S.ck st hF (rgc k94 (aI hF.q hF.o)) (bU (mc _ _ _ _ _ (hN1.below st.bel) (hN2.below st.bel))) Dg.cl rfl fun vv6 w5 a st hF=>?_
  obtain⟨ad8,n8,c8,rfl⟩:=Dg.form (st.f 0 rfl)
  refine oA hF 0 rfl rfl fun a hF=>ns ?_
  refine E.rg 15 aF hF [15,16,17,18,19,20,21,22,23,24,25,26,27,28,29] [_,_,_,_,.ex (.bool (neg1 !=neg2)),_,_,_,_,.of (fun w v=>Wg w v (neg1 !=neg2) ((N1)/(Nat.gcd (N1) (N2)))) (fun _ _ _ h hb=>h.below hb),_,_,_,_,.of (fun w v=>Rq w v ((sg neg1 N1:Rat)/(sg neg2 N2:Rat))) (fun _ _ _ h hb=>h.below hb)] (by decide+kernel) rfl rfl rfl ⟨rfd 11 (fun _=>cC (p:=0) rfl) rfl,rld rfl fun _ hb=>(bR (v:= .bool neg1) ((st.b 2 rfl rfl).below hb) rfl),rfd 10 (fun _=>cC (p:=0) rfl) rfl,rld rfl fun _ hb=>(bR (v:= .bool neg2) ((st.b 1 rfl rfl).below hb) rfl),(by intro a' w' hF' hb hd;have e16:=tE hd 0 rfl;have e18:=tE hd 1 rfl;exact dv0 (aq e16 e18 ce (ix (d:=(neg1 !=neg2)) rfl)) rfl rfl rfl),rfd 11 (fun _=>cw (p:=1) rfl) rfl,rld rfl fun _ hb=>(cO (v:= .slice ad1 n1 c1) ((st.b 2 rfl rfl).below hb) rfl),rm 0 rfl,ck st k95 rfl fun _ s=>bU (gI _ _ _ _ _ (hN1.below s.bel) (Dg.nt (s.f 0 rfl))),(by intro a' w' hF' hb hd;have e19:=tE hd 0 rfl;obtain⟨v23_0,e23,h23_1⟩:=tH hd 1 rfl;obtain⟨ad9,n9,c9,rfl⟩:=Dg.form h23_1;exact dv0 (bh (fN e19 e23) (ot _ _ _ _ _)) (Wg.mk h23_1) rfl rfl),rfd 10 (fun _=>cw (p:=1) rfl) rfl,rld rfl fun _ hb=>(cO (v:= .slice ad2 n2 c2) ((st.b 1 rfl rfl).below hb) rfl),rm 0 rfl,ck st k95 rfl fun _ s=>bU (gI _ _ _ _ _ (hN2.below s.bel) (Dg.nt (s.f 0 rfl))),ck st k56 rfl fun _ s _ x24 _ x28=>je (EU _ _ ((neg1 !=neg2)) ((N1)/(Nat.gcd (N1) (N2))) ((N2)/(Nat.gcd (N1) (N2))) ((sg neg1 N1:Rat)/(sg neg2 N2:Rat)) _ x24 x28 HP.out.1 HP.out.2),trivial⟩ ?_
  intro a w10 hF bb hall
  replace st:=st.to bb
  obtain⟨vv11,hF,st⟩:=rS hall hF st 14 rfl rfl Rq.cl
  obtain⟨r13,rfl⟩:=Rq.fo (st.f 0 rfl)
  clear hall bb
  refine so st hF 0 10 0 aa rfl rfl rfl rfl fun w14 a st hF=>?_
  refine nr ?_
  refine rs Tryz.results93 st hF 10 0 aa rfl rfl rfl ?_
  have bel:=st.bel
  have hh12:=(st.f 0 rfl)
  exact⟨_,rfl,hh12,bel⟩
end
section
theorem ao {n:Int} (h0: -9223372036854775808≤n) (h1:n≤9223372036854775807):Lim n.natAbs 2:=Lim.of64 (by omega)
theorem aK {z y:Int} {a b:Nat} (h1:Lim z.natAbs a) (h2:Lim y.natAbs b):ah ((z:Rat)/(y:Rat)) (max 1 (max a b)):=by
 rw[Rat.div_def]
 by_cases h0:y=0
 ·subst h0;rw[Rat.intCast_zero,Rat.inv_zero,Rat.mul_zero];exact iR (by omega)
 ·have e:(z:Rat)*(y:Rat)⁻¹ =mkRat (z*y.sign) y.natAbs:=by
   rw[←Rat.div_def,←Rat.divInt_eq_div]
   rcases Int.lt_or_gt_of_ne h0 with h|h
   ·obtain⟨m,rfl⟩:∃m:Nat,y= -(m:Int):=⟨y.natAbs,by omega⟩
    rw[Rat.divInt_neg',Rat.divInt_ofNat,Int.sign_eq_neg_one_of_neg h,Int.natAbs_neg,Int.natAbs_natCast,Int.mul_neg,Int.mul_one]
   ·obtain⟨m,rfl⟩:∃m:Nat,y=(m:Int):=⟨y.natAbs,by omega⟩
    rw[Rat.divInt_ofNat,Int.sign_eq_one_of_pos h,Int.natAbs_natCast,Int.mul_one]
  rw[e]
  refine mz ((h1.le ?_).up _ (by omega)) (h2.up _ (by omega)) (by omega)
  rw[Int.natAbs_mul]
  have:y.sign.natAbs≤1:=by rcases Int.lt_or_gt_of_ne h0 with h|h
                           ·rw[Int.sign_eq_neg_one_of_neg h];decide
                           ·rw[Int.sign_eq_one_of_pos h];decide
  exact Nat.le_trans (Nat.mul_le_mul_left _ this) (by omega)
theorem Bo (q:Rat):sg false q.num.natAbs=q.abs.num∧q.den=q.abs.den:=by
 unfold Rat.abs
 split
 ·rename_i h
  have:=Rat.num_nonneg.2 h
  exact⟨by rw[dv];omega,rfl⟩
 ·rename_i h
  have:¬0≤q.num:=fun h'=>h (Rat.num_nonneg.1 h')
  exact⟨by rw[dv,Rat.neg_num];omega,rfl⟩
theorem qE (v1:Value) (q1:Rat) (w:World) (h1:Rq w v1 q1):
 Calls Tryz.prog 51 #[v1] w (bl w (-q1)):=by
 obtain⟨b1,ad1,n1,c1,ae1,m1,d1,rfl,hn1,hd1⟩:=h1.shape
 have h1:Rq w (.agg #[.bool b1,.slice ad1 n1 c1,.slice ae1 m1 d1]) q1:=⟨_,_,_,_,_,_,_,rfl,hn1,hd1⟩
 have ha1:=hn1.abs
 have hb1:=hn1.neg
 have st:=St.start w
 refine go1 (nt:=9) Tryz.func51 rfl rfl rfl fun a hF=>?_
 refine wq ?_
 refine bx st hF 0 rfl rfl fun g1 w1 a st hF=>?_
 refine S.alloc st hF aa rfl rfl fun g2 w2 a st hF=>?_
 refine ns ?_
 refine E.rg 6 aF hF [3,4,5,6,7,8] [_,_,_,_,_,.of (fun w v=>Rq w v (-q1)) (fun _ _ _ h hb=>h.below hb)] (by decide+kernel) rfl rfl rfl ⟨rfd 1 (fun _=>du (p:=0) rfl) rfl,rld rfl fun _ hb=>(gU (vs:=[.bool b1,.slice ad1 n1 c1]) ((st.b 1 rfl rfl).below hb) rfl rfl),ck st k98 rfl fun _ s=>fV (Dc _ _ _ (Wc.wz (hn1.below s.bel))),rb st aa 1 1 rfl,ck st k99 rfl fun _ s=>bU (mS _ (q1) _ (h1.below s.bel)),ck st k56 rfl fun _ s _ x5 _ x7=>je (qI _ _ (-(Rat.num (q1))) (Rat.den (q1)) (-q1) _ x5 x7 rfl (fun _=>rfl)),trivial⟩ ?_
 intro a w3 hF bb hall
 replace st:=st.to bb
 obtain⟨vv4,hF,st⟩:=rS hall hF st 5 rfl rfl Rq.cl
 obtain⟨r6,rfl⟩:=Rq.fo (st.f 0 rfl)
 clear hall bb
 refine so st hF 0 1 0 aa rfl rfl rfl rfl fun w7 a st hF=>?_
 refine nr ?_
 refine rs Tryz.results51 st hF 1 0 aa rfl rfl rfl ?_
 have bel:=st.bel
 have hh5:=(st.f 0 rfl)
 exact⟨_,rfl,hh5,bel⟩
theorem Fu (v1:Value) (q1:Rat) (w:World) (h1:Rq w v1 q1):
 Calls Tryz.prog 228 #[v1] w (bl w (Rat.abs q1)):=by
 obtain⟨b1,ad1,n1,c1,ae1,m1,d1,rfl,hn1,hd1⟩:=h1.shape
 have h1:Rq w (.agg #[.bool b1,.slice ad1 n1 c1,.slice ae1 m1 d1]) q1:=⟨_,_,_,_,_,_,_,rfl,hn1,hd1⟩
 have ha1:=hn1.abs
 have hb1:=hn1.neg
 have HP:=Lib.hid (Bo q1)
 have st:=St.start w
 refine go1 (nt:=10) Tryz.func228 rfl rfl rfl fun a hF=>?_
 refine wq ?_
 refine bx st hF 0 rfl rfl fun g1 w1 a st hF=>?_
 refine S.alloc st hF aa rfl rfl fun g2 w2 a st hF=>?_
 refine ns ?_
 refine E.rg 7 aF hF [3,4,5,6,7,8,9] [_,.ex (.pointer (some ⟨g1,1,none⟩)),_,_,_,_,.of (fun w v=>Rq w v (Rat.abs q1)) (fun _ _ _ h hb=>h.below hb)] (by decide+kernel) rfl rfl rfl ⟨rfd 1 (fun _=>du (p:=0) rfl) rfl,(by intro a' w' hF' hb hd;have e3:=tE hd 0 rfl;exact dv0 (av e3 (cw (p:=1) rfl)) rfl rfl rfl),rld rfl fun _ hb=>(cO (v:= .slice ad1 n1 c1) ((st.b 1 rfl rfl).below hb) rfl),ck st Lk rfl fun _ s=>fV (qj _ _ _ _ (Dg.nt (ha1.below s.bel))),rb st aa 1 1 rfl,ck st k99 rfl fun _ s=>bU (mS _ (q1) _ (h1.below s.bel)),ck st k56 rfl fun _ s _ x6 _ x8=>je (qI _ _ (sg false (Int.natAbs (Rat.num (q1)))) (Rat.den (q1)) (Rat.abs q1) _ x6 x8 HP.out.1 (fun _=>HP.out.2)),trivial⟩ ?_
 intro a w3 hF bb hall
 replace st:=st.to bb
 obtain⟨vv4,hF,st⟩:=rS hall hF st 6 rfl rfl Rq.cl
 obtain⟨r6,rfl⟩:=Rq.fo (st.f 0 rfl)
 clear hall bb
 refine so st hF 0 1 0 aa rfl rfl rfl rfl fun w7 a st hF=>?_
 refine nr ?_
 refine rs Tryz.results228 st hF 1 0 aa rfl rfl rfl ?_
 have bel:=st.bel
 have hh5:=(st.f 0 rfl)
 exact⟨_,rfl,hh5,bel⟩
theorem bz (n d:Int) (w:World) (b1: -9223372036854775808≤n) (b2:n≤9223372036854775807) (b3: -9223372036854775808≤d) (b4:d≤9223372036854775807):
 Calls Tryz.prog 48 #[.int .i64 n,.int .i64 d] w (bl w ((n:Rat)/(d:Rat))):=by
 have st:=St.start w
 refine go2 (nt:=10) Tryz.func48 rfl rfl rfl fun a hF=>?_
 refine wq ?_
 refine S.alloc st hF aa rfl rfl fun g4 w1 a st hF=>?_
 refine nq ?_
 refine oM hF 1 rfl rfl fun a hF=>?_
 refine S.ck st hF (rgc k57 (aD hF.o)) (d7 (jD n _ b1 b2) (ao b1 b2)) Wl.cl rfl fun vv3 w2 a st hF=>?_
 obtain⟨ad5,n5,c5,rfl,_⟩:=Wc.shape (st.f 0 rfl).1
 refine oM hF 4 rfl rfl fun a hF=>?_
 refine S.ck st hF (rgc k57 (aD hF.o)) (d7 (jD d _ b3 b4) (ao b3 b4)) Wl.cl rfl fun vv7 w6 a st hF=>?_
 obtain⟨ad9,n9,c9,rfl,_⟩:=Wc.shape (st.f 0 rfl).1
 refine S.ck st hF (rgc k93 (aI hF.q hF.o)) (aB (zq _ _ (n) (d) _ (Wc.wz (st.f 1 rfl).1) (Wc.wz (st.f 0 rfl).1)) (aK (st.f 1 rfl).2 (st.f 0 rfl).2)) Rl.cl rfl fun vv11 w10 a st hF=>?_
 obtain⟨r13,rfl⟩:=Rq.fo (st.f 0 rfl).1
 refine so st hF 0 5 0 aa rfl rfl rfl rfl fun w14 a st hF=>?_
 refine nr ?_
 refine rs Tryz.results48 st hF 5 0 aa rfl rfl rfl ?_
 have bel:=st.bel
 have hh12:=(st.f 0 rfl).1
 exact⟨_,rfl,hh12,bel⟩
theorem a7 (n:Int) (w:World) (b1: -9223372036854775808≤n) (b2:n≤9223372036854775807):
 Calls Tryz.prog 30 #[.int .i64 n] w (bl w (n:Rat)):=by
 have st:=St.start w
 refine go1 (nt:=7) Tryz.func30 rfl rfl rfl fun a hF=>?_
 refine wq ?_
 refine S.alloc st hF aa rfl rfl fun g2 w1 a st hF=>?_
 refine nq ?_
 refine oM hF 1 rfl rfl fun a hF=>?_
 refine S.ck st hF (rgc k57 (aD hF.o)) (d7 (jD n _ b1 b2) (ao b1 b2)) Wl.cl rfl fun vv3 w2 a st hF=>?_
 obtain⟨ad5,n5,c5,rfl,_⟩:=Wc.shape (st.f 0 rfl).1
 refine S.ck st hF (rgc k58 (aD ar)) (bU (oD 1 _ (by decide))) Dg.cl rfl fun vv7 w6 a st hF=>?_
 obtain⟨ad9,n9,c9,rfl⟩:=Dg.form (st.f 0 rfl)
 refine ca st hF (rgc k56 (aI hF.p hF.o)) (qI _ _ (n) (1) ((n:Rat)) _ (st.f 1 rfl).1 (st.f 0 rfl) rfl (fun _=>rfl)) (fun _ _ h=>h) Rq.cl rfl fun vv11 w10 a st hF=>?_
 obtain⟨r13,rfl⟩:=Rq.fo (st.f 0 rfl)
 refine so st hF 0 4 0 aa rfl rfl rfl rfl fun w14 a st hF=>?_
 refine nr ?_
 refine rs Tryz.results30 st hF 4 0 aa rfl rfl rfl ?_
 have bel:=st.bel
 have hh12:=(st.f 0 rfl)
 exact⟨_,rfl,hh12,bel⟩
theorem qm (v1 v2:Value) (q1 q2:Rat) (k:Nat) (w:World) (h1:Rq w v1 q1) (h2:Rq w v2 q2) (l1:ah q1 k) (l2:ah q2 k) (hk:k≤100000):
 Calls Tryz.prog 50 #[v1,v2] w (bl w (q1+q2)):=by
 obtain⟨b1,ad1,n1,c1,ae1,m1,d1,rfl,hn1,hd1⟩:=h1.shape
 have h1:Rq w (.agg #[.bool b1,.slice ad1 n1 c1,.slice ae1 m1 d1]) q1:=⟨_,_,_,_,_,_,_,rfl,hn1,hd1⟩
 have ha1:=hn1.abs
 have hb1:=hn1.neg
 obtain⟨b2,ad2,n2,c2,ae2,m2,d2,rfl,hn2,hd2⟩:=h2.shape
 have h2:Rq w (.agg #[.bool b2,.slice ad2 n2 c2,.slice ae2 m2 d2]) q2:=⟨_,_,_,_,_,_,_,rfl,hn2,hd2⟩
 have ha2:=hn2.abs
 have hb2:=hn2.neg
 have HP:=Lib.hid (BJ q1 q2)
 have st:=St.start w
 refine go2 (nt:=47) Tryz.func50 rfl rfl rfl fun a hF=>?_
 refine wq ?_
 refine bx st hF 0 rfl rfl fun g2 w1 a st hF=>?_
 refine bx st hF 2 rfl rfl fun g3 w2 a st hF=>?_
 refine S.alloc st hF aa rfl rfl fun g4 w3 a st hF=>?_
 refine ns ?_
 refine E.rg 6 aF hF [9,10,11,12,13,5] [_,_,_,_,_,_] (by decide+kernel) rfl rfl rfl ⟨rb st aa 2 2 rfl,ck st k54 rfl fun _ s=>bU (dM _ (q1) _ (h1.below s.bel)),rb st aa 1 1 rfl,ck st k54 rfl fun _ s=>bU (dM _ (q2) _ (h2.below s.bel)),ck st k94 rfl fun _ s _ x10 _ x12=>bU (mc _ _ _ _ _ (Dg.nt x10) (Dg.nt x12)),rv rfl,trivial⟩ ?_
 intro a w4 hF bb hall
 replace st:=st.to bb
 obtain⟨vv5,hF,st⟩:=rS hall hF st 5 rfl rfl Dg.cl
 obtain⟨ad7,n7,c7,rfl⟩:=Dg.form (st.f 0 rfl)
 clear hall bb
 refine nq ?_
 refine oL hF st 3 2 aa rfl rfl rfl rfl fun a hF=>?_
 refine S.ck st hF (rgc k54 (aD hF.o)) (bU (dM _ (q1) _ (h1.below st.bel))) Dg.cl rfl fun vv9 w8 a st hF=>?_
 obtain⟨ad11,n11,c11,rfl⟩:=Dg.form (st.f 0 rfl)
 refine oM hF 2 rfl rfl fun a hF=>?_
 refine S.ck st hF (rgc k95 (aI hF.p hF.o)) (bU (gI _ _ _ _ _ (Dg.nt (st.f 0 rfl)) (Dg.nt (st.f 1 rfl)))) Dg.cl rfl fun vv13 w12 a st hF=>?_
 obtain⟨ad15,n15,c15,rfl⟩:=Dg.form (st.f 0 rfl)
 refine oA hF 0 rfl rfl fun a hF=>ns ?_
 refine E.rga 13 aF hF [18,19,20,21,22,23,24,25,26,27,28,29,7] [_,_,_,_,_,_,_,_,_,_,_,_,kn w12 [.bool false,.slice none 0 0]] [12] ⟨fun _ _ ⟨g,e,_,o⟩=>⟨g,e,o.lt⟩,trivial⟩ (by decide+kernel) rfl rfl rfl ⟨rfd 8 (fun _=>du (p:=0) rfl) rfl,rld rfl fun _ hb=>(gU (vs:=[.bool b1,.slice ad1 n1 c1]) ((st.b 2 rfl rfl).below hb) rfl rfl),rb st aa 7 1 rfl,ck st k54 rfl fun _ s=>bU (dM _ (q2) _ (h2.below s.bel)),rm 5 rfl,ck st k95 rfl fun _ s _ x21=>bU (gI _ _ _ _ _ (Dg.nt x21) (Dg.nt (s.f 2 rfl))),ck st k53 rfl fun _ s _ x23=>d7 (kd _ _ _ _ k k _ (Wc.wz (hn1.below s.bel)) (Dg.nt x23) (l1.1) (gJ (l2.2)) (by omega) (by omega)) (cR (l1.1) (gJ (l2.2))),rfd 7 (fun _=>du (p:=0) rfl) rfl,rld rfl fun _ hb=>(gU (vs:=[.bool b2,.slice ad2 n2 c2]) ((st.b 1 rfl rfl).below hb) rfl rfl),rm 0 rfl,ck st k53 rfl fun _ s=>d7 (kd _ _ _ _ k k _ (Wc.wz (hn2.below s.bel)) (Dg.nt (s.f 0 rfl)) (l2.1) (gJ (l1.2)) (by omega) (by omega)) (cR (l2.1) (gJ (l1.2))),ck st k96 rfl fun _ s _ x24 _ x28=>d7 (Bz _ _ _ _ (k+k) (k+k) _ (Wc.wz x24.1) (Wc.wz x28.1) x24.2 x28.2 (by omega) (by omega)) (gu x24.2 x28.2 ((k+k)+1) (by omega) (by omega)),ra bq rfl rfl,trivial⟩ ?_
 intro a w16 hF bb hall hne
 have s0:=st
 replace st:=st.to bb
 obtain⟨vv17,hF,st⟩:=rS hall hF st 11 rfl rfl Wl.cl
 obtain⟨ad19,n19,c19,rfl,_⟩:=Wc.shape (st.f 0 rfl).1
 obtain⟨_,e7,g7,rfl,ge7,o7⟩:=sS hall 12 7 rfl rfl
 replace st:=st.push o7.blk (Nat.le_trans s0.bel.size ge7) (s0.ne ge7)
 clear o7
 replace hF:=hF.add e7
 clear hall bb hne s0
 refine so st hF 0 0 1 bq rfl rfl rfl rfl fun w20 a st hF=>?_
 have hf21:=Wc.abs (st.f 0 rfl).1
 replace st:=st.add hf21 (Dg.cl _)
 clear hf21
 refine nq ?_
 refine oV hF (av hF.o (cw (p:=1) rfl)) rfl fun a hF=>oV hF (au hF.o (cO (v:= .slice ad19 n19 c19) (st.b 0 rfl rfl) rfl)) rfl fun a hF=>oM hF 9 rfl rfl fun a hF=>?_
 refine S.ck st hF (rgc k94 (aI hF.p hF.o)) (bU (mc _ _ _ _ _ (Dg.nt (st.f 0 rfl)) (Dg.nt (st.f 4 rfl)))) Dg.cl rfl fun vv23 w22 a st hF=>?_
 obtain⟨ad25,n25,c25,rfl⟩:=Dg.form (st.f 0 rfl)
 refine oA hF 0 rfl rfl fun a hF=>nq ?_
 refine oV hF (av (hF.at 5 rfl) (cw (p:=1) rfl)) rfl fun a hF=>oV hF (au hF.o (cO (v:= .slice ad19 n19 c19) (st.b 0 rfl rfl) rfl)) rfl fun a hF=>oM hF 2 rfl rfl fun a hF=>?_
 refine S.ck st hF (rgc k95 (aI hF.p hF.o)) (bU (gI _ _ _ _ _ (Dg.nt (st.f 1 rfl)) (Dg.nt (st.f 0 rfl)))) Dg.cl rfl fun vv27 w26 a st hF=>?_
 obtain⟨ad29,n29,c29,rfl⟩:=Dg.form (st.f 0 rfl)
 refine oV hF (av (hF.at 9 rfl) (cw (p:=1) rfl)) rfl fun a hF=>?_
 refine S.stoo (o:=1) (vs:=[.slice ad29 n29 c29]) (ws:=[.bool (decide (((Rat.num (q1))*(((Rat.den (q2))/(Nat.gcd (Rat.den (q1)) (Rat.den (q2))):Nat):Int))+((Rat.num (q2))*(((Rat.den (q1))/(Nat.gcd (Rat.den (q1)) (Rat.den (q2))):Nat):Int))<0)),.slice ad29 n29 c29]) st hF 0 rfl hF.o hF.p rfl lh rfl rfl rfl rfl rfl fun w30 a st hF=>?_
 refine ns ?_
 refine E.rg 8 aF hF [39,40,41,42,43,44,45,46] [_,_,_,_,_,_,_,.of (fun w v=>Rq w v (q1+q2)) (fun _ _ _ h hb=>h.below hb)] (by decide+kernel) rfl rfl rfl ⟨rb st bq 10 0 rfl,rm 12 rfl,rb st aa 19 2 rfl,ck st k54 rfl fun _ s=>bU (dM _ (q2) _ (h2.below s.bel)),rm 5 rfl,ck st k95 rfl fun _ s _ x42=>bU (gI _ _ _ _ _ (Dg.nt x42) (Dg.nt (s.f 1 rfl))),ck st k97 rfl fun _ s _ x44=>bU (pP _ _ _ _ _ (Dg.nt (s.f 4 rfl)) (Dg.nt x44) (Lim.dl (gJ (l1.2)) _ (by omega)) (Lim.dl (gJ (l2.2)) _ (by omega))),ck st k56 rfl fun _ s _ x45=>je (lI _ _ _ ((Int.natAbs (((Rat.num (q1))*(((Rat.den (q2))/(Nat.gcd (Rat.den (q1)) (Rat.den (q2))):Nat):Int))+((Rat.num (q2))*(((Rat.den (q1))/(Nat.gcd (Rat.den (q1)) (Rat.den (q2))):Nat):Int))))/(Nat.gcd (Int.natAbs (((Rat.num (q1))*(((Rat.den (q2))/(Nat.gcd (Rat.den (q1)) (Rat.den (q2))):Nat):Int))+((Rat.num (q2))*(((Rat.den (q1))/(Nat.gcd (Rat.den (q1)) (Rat.den (q2))):Nat):Int)))) (Nat.gcd (Rat.den (q1)) (Rat.den (q2))))) (((Rat.den (q1))/(Nat.gcd (Rat.den (q1)) (Rat.den (q2))))*((Rat.den (q2))/(Nat.gcd (Int.natAbs (((Rat.num (q1))*(((Rat.den (q2))/(Nat.gcd (Rat.den (q1)) (Rat.den (q2))):Nat):Int))+((Rat.num (q2))*(((Rat.den (q1))/(Nat.gcd (Rat.den (q1)) (Rat.den (q2))):Nat):Int)))) (Nat.gcd (Rat.den (q1)) (Rat.den (q2)))))) (q1+q2) _ (s.f 0 rfl) x45 HP.out.1 (fun _=>HP.out.2)),trivial⟩ ?_
 intro a w31 hF bb hall
 replace st:=st.to bb
 obtain⟨vv32,hF,st⟩:=rS hall hF st 7 rfl rfl Rq.cl
 obtain⟨r34,rfl⟩:=Rq.fo (st.f 0 rfl)
 clear hall bb
 refine so st hF 1 19 0 aa rfl rfl rfl rfl fun w35 a st hF=>?_
 refine nr ?_
 refine rs Tryz.results50 st hF 19 1 aa rfl rfl rfl ?_
 have bel:=st.bel
 have hh33:=(st.f 0 rfl)
 exact⟨_,rfl,hh33,bel⟩
theorem vr (v1 v2:Value) (q1 q2:Rat) (k:Nat) (w:World) (h1:Rq w v1 q1) (h2:Rq w v2 q2) (l1:ah q1 k) (l2:ah q2 k) (hk:k≤100000):
 Calls Tryz.prog 82 #[v1,v2] w (bl w (q1*q2)):=by
 obtain⟨b1,ad1,n1,c1,ae1,m1,d1,rfl,hn1,hd1⟩:=h1.shape
 have h1:Rq w (.agg #[.bool b1,.slice ad1 n1 c1,.slice ae1 m1 d1]) q1:=⟨_,_,_,_,_,_,_,rfl,hn1,hd1⟩
 have ha1:=hn1.abs
 have hb1:=hn1.neg
 obtain⟨b2,ad2,n2,c2,ae2,m2,d2,rfl,hn2,hd2⟩:=h2.shape
 have h2:Rq w (.agg #[.bool b2,.slice ad2 n2 c2,.slice ae2 m2 d2]) q2:=⟨_,_,_,_,_,_,_,rfl,hn2,hd2⟩
 have ha2:=hn2.abs
 have hb2:=hn2.neg
 have HP:=AY q1 q2
 rw[←hb1,←hb2] at HP
 replace HP:=Lib.hid HP
 have st:=St.start w
 refine go2 (nt:=52) Tryz.func82 rfl rfl rfl fun a hF=>?_
 refine wq ?_
 refine bx st hF 0 rfl rfl fun g2 w1 a st hF=>?_
 refine bx st hF 2 rfl rfl fun g3 w2 a st hF=>?_
 refine S.alloc st hF aa rfl rfl fun g4 w3 a st hF=>?_
 refine ns ?_
 refine E.rg 14 aF hF [9,10,11,12,13,14,15,16,17,18,19,20,5,6] [_,.ex (.pointer (some ⟨g2,1,none⟩)),_,_,_,_,_,.ex (.pointer (some ⟨g3,1,none⟩)),_,_,_,_,_,_] (by decide+kernel) rfl rfl rfl ⟨rfd 2 (fun _=>du (p:=0) rfl) rfl,(by intro a' w' hF' hb hd;have e9:=tE hd 0 rfl;exact dv0 (av e9 (cw (p:=1) rfl)) rfl rfl rfl),rld rfl fun _ hb=>(cO (v:= .slice ad1 n1 c1) ((st.b 2 rfl rfl).below hb) rfl),rb st aa 1 1 rfl,ck st k54 rfl fun _ s=>bU (dM _ (q2) _ (h2.below s.bel)),ck st k94 rfl fun _ s _ x13=>bU (mc _ _ _ _ _ (Dg.nt (ha1.below s.bel)) (Dg.nt x13)),rfd 1 (fun _=>du (p:=0) rfl) rfl,(by intro a' w' hF' hb hd;have e15:=tE hd 0 rfl;exact dv0 (av e15 (cw (p:=1) rfl)) rfl rfl rfl),rld rfl fun _ hb=>(cO (v:= .slice ad2 n2 c2) ((st.b 1 rfl rfl).below hb) rfl),rb st aa 2 2 rfl,ck st k54 rfl fun _ s=>bU (dM _ (q1) _ (h1.below s.bel)),ck st k94 rfl fun _ s _ x19=>bU (mc _ _ _ _ _ (Dg.nt (ha2.below s.bel)) (Dg.nt x19)),rv rfl,rv rfl,trivial⟩ ?_
 intro a w4 hF bb hall
 replace st:=st.to bb
 obtain⟨vv5,hF,st⟩:=rS hall hF st 12 rfl rfl Dg.cl
 obtain⟨ad7,n7,c7,rfl⟩:=Dg.form (st.f 0 rfl)
 obtain⟨vv8,hF,st⟩:=rS hall hF st 13 rfl rfl Dg.cl
 obtain⟨ad10,n10,c10,rfl⟩:=Dg.form (st.f 0 rfl)
 clear hall bb
 refine ns ?_
 refine E.rg 12 aF hF [21,22,23,24,25,26,27,28,29,30,31,7] [_,.ex (.pointer (some ⟨g2,1,none⟩)),_,_,_,_,.ex (.pointer (some ⟨g3,1,none⟩)),_,_,_,_,_] (by decide+kernel) rfl rfl rfl ⟨rfd 4 (fun _=>du (p:=0) rfl) rfl,(by intro a' w' hF' hb hd;have e21:=tE hd 0 rfl;exact dv0 (av e21 (cw (p:=1) rfl)) rfl rfl rfl),rld rfl fun _ hb=>(cO (v:= .slice ad1 n1 c1) ((st.b 2 rfl rfl).below hb) rfl),rm 1 rfl,ck st k95 rfl fun _ s=>bU (gI _ _ _ _ _ (Dg.nt (ha1.below s.bel)) (Dg.nt (s.f 1 rfl))),rfd 3 (fun _=>du (p:=0) rfl) rfl,(by intro a' w' hF' hb hd;have e26:=tE hd 0 rfl;exact dv0 (av e26 (cw (p:=1) rfl)) rfl rfl rfl),rld rfl fun _ hb=>(cO (v:= .slice ad2 n2 c2) ((st.b 1 rfl rfl).below hb) rfl),rm 0 rfl,ck st k95 rfl fun _ s=>bU (gI _ _ _ _ _ (Dg.nt (ha2.below s.bel)) (Dg.nt (s.f 0 rfl))),ck st k97 rfl fun _ s _ x25 _ x30=>bU (pP _ _ _ _ _ (Dg.nt x25) (Dg.nt x30) (Lim.dl (gJ (l1.1)) _ (by omega)) (Lim.dl (gJ (l2.1)) _ (by omega))),rv rfl,trivial⟩ ?_
 intro a w11 hF bb hall
 replace st:=st.to bb
 obtain⟨vv12,hF,st⟩:=rS hall hF st 11 rfl rfl Dg.cl
 obtain⟨ad14,n14,c14,rfl⟩:=Dg.form (st.f 0 rfl)
 clear hall bb
 refine ns ?_
 refine E.rg 10 aF hF [32,33,34,35,36,37,38,39,40,8] [_,_,_,_,_,_,_,_,_,_] (by decide+kernel) rfl rfl rfl ⟨rb st aa 5 2 rfl,ck st k54 rfl fun _ s=>bU (dM _ (q1) _ (h1.below s.bel)),rm 1 rfl,ck st k95 rfl fun _ s _ x33=>bU (gI _ _ _ _ _ (Dg.nt x33) (Dg.nt (s.f 1 rfl))),rb st aa 4 1 rfl,ck st k54 rfl fun _ s=>bU (dM _ (q2) _ (h2.below s.bel)),rm 2 rfl,ck st k95 rfl fun _ s _ x37=>bU (gI _ _ _ _ _ (Dg.nt x37) (Dg.nt (s.f 2 rfl))),ck st k97 rfl fun _ s _ x35 _ x39=>bU (pP _ _ _ _ _ (Dg.nt x35) (Dg.nt x39) (Lim.dl (gJ (l1.2)) _ (by omega)) (Lim.dl (gJ (l2.2)) _ (by omega))),rv rfl,trivial⟩ ?_
 intro a w15 hF bb hall
 replace st:=st.to bb
 obtain⟨vv16,hF,st⟩:=rS hall hF st 9 rfl rfl Dg.cl
 obtain⟨ad18,n18,c18,rfl⟩:=Dg.form (st.f 0 rfl)
 clear hall bb
 refine nq ?_
 refine oV hF (av (hF.at 6 rfl) (du (p:=0) rfl)) rfl fun a hF=>oV hF (av hF.o (cC (p:=0) rfl)) rfl fun a hF=>oV hF (au hF.o (bR (v:= .bool b1) (st.b 2 rfl rfl) rfl)) rfl fun a hF=>oV hF (av (hF.at 8 rfl) (du (p:=0) rfl)) rfl fun a hF=>oV hF (av hF.o (cC (p:=0) rfl)) rfl fun a hF=>oV hF (au hF.o (bR (v:= .bool b2) (st.b 1 rfl rfl) rfl)) rfl fun a hF=>oV hF (aq (hF.at 3 rfl) hF.o ce (ix (d:=(b1 !=b2)) rfl)) rfl fun a hF=>?_
 refine oM hF 8 rfl rfl fun a hF=>oV hF (bh (fN hF.p hF.o) (ot _ _ _ _ _)) rfl fun a hF=>oM hF 9 rfl rfl fun a hF=>?_
 refine ca st hF (rgc k56 (aI hF.p hF.o)) (lI _ _ _ (((Int.natAbs (Rat.num (q1)))/(Nat.gcd (Int.natAbs (Rat.num (q1))) (Rat.den (q2))))*((Int.natAbs (Rat.num (q2)))/(Nat.gcd (Int.natAbs (Rat.num (q2))) (Rat.den (q1))))) (((Rat.den (q1))/(Nat.gcd (Int.natAbs (Rat.num (q2))) (Rat.den (q1))))*((Rat.den (q2))/(Nat.gcd (Int.natAbs (Rat.num (q1))) (Rat.den (q2))))) (q1*q2) _ (st.f 1 rfl) (st.f 0 rfl) HP.out.1 (fun _=>HP.out.2)) (fun _ _ h=>h) Rq.cl rfl fun vv20 w19 a st hF=>?_
 obtain⟨r22,rfl⟩:=Rq.fo (st.f 0 rfl)
 refine so st hF 0 15 0 aa rfl rfl rfl rfl fun w23 a st hF=>?_
 refine nr ?_
 refine rs Tryz.results82 st hF 15 0 aa rfl rfl rfl ?_
 have bel:=st.bel
 have hh21:=(st.f 0 rfl)
 exact⟨_,rfl,hh21,bel⟩
theorem DW (v1 v2:Value) (q1 q2:Rat) (k:Nat) (w:World) (h1:Rq w v1 q1) (h2:Rq w v2 q2) (l1:ah q1 k) (l2:ah q2 k) (hk:k≤100000):
 Calls Tryz.prog 27 #[v1,v2] w (bl w (q1-q2)):=by
 obtain⟨r1,rfl⟩:=h1.fo
 obtain⟨r2,rfl⟩:=h2.fo
 have st:=St.start w
 refine go2 (nt:=9) Tryz.func27 rfl rfl rfl fun a hF=>?_
 refine wq ?_
 refine bx st hF 0 rfl rfl fun g2 w1 a st hF=>?_
 refine bx st hF 2 rfl rfl fun g3 w2 a st hF=>?_
 refine S.alloc st hF aa rfl rfl fun g4 w3 a st hF=>?_
 refine ns ?_
 refine E.rg 4 aF hF [5,6,7,8] [_,_,_,_] (by decide+kernel) rfl rfl rfl ⟨rb st aa 2 2 rfl,rb st aa 1 1 rfl,ck st k51 rfl fun _ s=>aB (qE _ (q2) _ (h2.below s.bel)) (fK l2),ck st k50 rfl fun _ s _ x7=>aB (qm _ _ (q1) (-(q2)) k _ (h1.below s.bel) x7.1 (l1.up _ (by omega)) (x7.2.up _ (by omega)) (by omega)) (bL l1 x7.2),trivial⟩ ?_
 intro a w4 hF bb hall
 replace st:=st.to bb
 obtain⟨vv5,hF,st⟩:=rS hall hF st 3 rfl rfl Rl.cl
 obtain⟨r7,rfl⟩:=Rq.fo (st.f 0 rfl).1
 clear hall bb
 refine so st hF 0 1 0 aa rfl rfl rfl rfl fun w8 a st hF=>?_
 refine nr ?_
 refine rs Tryz.results27 st hF 1 0 aa rfl rfl rfl ?_
 have bel:=st.bel
 have hh6:=(st.f 0 rfl).1
 exact⟨_,rfl,by rw[Rat.sub_eq_add_neg];exact hh6,bel⟩
theorem Em (v1 v2:Value) (q1 q2:Rat) (k:Nat) (w:World) (h1:Rq w v1 q1) (h2:Rq w v2 q2) (l1:ah q1 k) (l2:ah q2 k) (hk:k≤100000):
 Calls Tryz.prog 107 #[v1,v2] w (bl w (q1/q2)):=by
 obtain⟨b1,ad1,n1,c1,ae1,m1,d1,rfl,hn1,hd1⟩:=h1.shape
 have h1:Rq w (.agg #[.bool b1,.slice ad1 n1 c1,.slice ae1 m1 d1]) q1:=⟨_,_,_,_,_,_,_,rfl,hn1,hd1⟩
 have ha1:=hn1.abs
 have hb1:=hn1.neg
 obtain⟨b2,ad2,n2,c2,ae2,m2,d2,rfl,hn2,hd2⟩:=h2.shape
 have h2:Rq w (.agg #[.bool b2,.slice ad2 n2 c2,.slice ae2 m2 d2]) q2:=⟨_,_,_,_,_,_,_,rfl,hn2,hd2⟩
 have ha2:=hn2.abs
 have hb2:=hn2.neg
 by_cases h0:q2=0
 ·have hq:q1/q2=0:=by rw[h0,Rat.div_def,Rat.inv_zero,Rat.mul_zero]
  have hn0:=Rat.num_eq_zero.2 h0
  clear h0
  have st:=St.start w
  refine go2 (nt:=21) Tryz.func107 rfl rfl rfl fun a hF=>?_
  refine wq ?_
  refine bx st hF 0 rfl rfl fun g2 w1 a st hF=>?_
  refine bx st hF 2 rfl rfl fun g3 w2 a st hF=>?_
  refine S.alloc st hF aa rfl rfl fun g4 w3 a st hF=>?_
  refine ns ?_
  refine wq ?_
  refine oL hF st 1 1 aa rfl rfl rfl rfl fun a hF=>?_
  refine cX st hF (rgc k28 (aD hF.o)) (ev _ (q2) _ (h2.below st.bel)) rfl fun w4 a st hF=>?_
  refine oT hF 0 (a6 (c:=true) (eq0 (oI.2 hn0))) rfl rfl fun a hF=>?_
  refine E.nil ?_
  refine wp_cond_true hF.o ?_
  refine wq ?_
  refine oV hF (bh (by simp) (iJ _)) rfl fun a hF=>?_
  refine so st hF 0 4 0 aa rfl rfl rfl rfl fun w5 a st hF=>?_
  refine nr ?_
  refine rs Tryz.results107 st hF 4 0 aa rfl rfl rfl ?_
  have bel:=st.bel
  exact⟨_,rfl,Rz0 hq _,bel⟩
 ·have hn0:=CX h0
  have HV1:dn q2≠0:=by rw[uy h0];exact q2.den_nz
  have HV2:sg b2 (dn q2)=(q2⁻¹).num :=by rw[hb2,uy h0];exact(oP h0).1
  have HV3:=(oP h0).2
  have st:=St.start w
  refine go2 (nt:=21) Tryz.func107 rfl rfl rfl fun a hF=>?_
  refine wq ?_
  refine bx st hF 0 rfl rfl fun g2 w1 a st hF=>?_
  refine bx st hF 2 rfl rfl fun g3 w2 a st hF=>?_
  refine S.alloc st hF aa rfl rfl fun g4 w3 a st hF=>?_
  refine ns ?_
  refine wq ?_
  refine oL hF st 1 1 aa rfl rfl rfl rfl fun a hF=>?_
  refine cX st hF (rgc k28 (aD hF.o)) (ev _ (q2) _ (h2.below st.bel)) rfl fun w4 a st hF=>?_
  refine oT hF 0 (a6 (c:=false) (oN (fun e=>hn0 (oI.1 e)))) rfl rfl fun a hF=>?_
  refine E.nil ?_
  refine wp_cond_false hF.o ?_
  refine wp_skip ?_
  refine E.norm ?_
  refine wq ?_
  refine oL hF st 5 2 aa rfl rfl rfl rfl fun a hF=>oV hF (av (hF.at 5 rfl) (du (p:=0) rfl)) rfl fun a hF=>oV hF (av hF.o (cC (p:=0) rfl)) rfl fun a hF=>oV hF (au hF.o (bR (v:= .bool b2) (st.b 1 rfl rfl) rfl)) rfl fun a hF=>oV hF (av (hF.at 8 rfl) (mT (p:=2) rfl)) rfl fun a hF=>oV hF (au hF.o (cO (v:= .slice ae2 m2 d2) (st.b 1 rfl rfl) rfl)) rfl fun a hF=>oV hF (bh (fN hF.q hF.o) (ot _ _ _ _ _)) rfl fun a hF=>?_
  refine oV hF (av (hF.at 11 rfl) (du (p:=0) rfl)) rfl fun a hF=>oV hF (av hF.o (cw (p:=1) rfl)) rfl fun a hF=>oV hF (au hF.o (cO (v:= .slice ad2 n2 c2) (st.b 1 rfl rfl) rfl)) rfl fun a hF=>oV hF (bh (fN (hF.at 3 rfl) hF.o) (uf _ _ _ _ _ _ _ _)) rfl fun a hF=>?_
  refine S.ck st hF (rgc k82 (aI (hF.at 10 rfl) hF.o)) (aB (vr _ _ (q1) (q2⁻¹) k _ (h1.below st.bel) (Rq.mk (hd2.below st.bel) (ha2.below st.bel) HV1 HV2 HV3) (l1.up _ (by omega)) ((qU l2).up _ (by omega)) (by omega)) (bf l1 (qU l2))) Rl.cl rfl fun vv6 w5 a st hF=>?_
  obtain⟨r8,rfl⟩:=Rq.fo (st.f 0 rfl).1
  refine so st hF 0 15 0 aa rfl rfl rfl rfl fun w9 a st hF=>?_
  refine nr ?_
  refine rs Tryz.results107 st hF 15 0 aa rfl rfl rfl ?_
  have bel:=st.bel
  have hh7:=(st.f 0 rfl).1
  exact⟨_,rfl,by rw[Rat.div_def];exact hh7,bel⟩
theorem kQ (v1 v2:Value) (q1 q2:Rat) (k:Nat) (w:World) (h1:Rq w v1 q1) (h2:Rq w v2 q2) (l1:ah q1 k) (l2:ah q2 k) (hk:k≤100000):
 Calls Tryz.prog 29 #[v1,v2] w (iL w (qc q1 q2)):=by
 obtain⟨b1,ad1,n1,c1,ae1,m1,d1,rfl,hn1,hd1⟩:=h1.shape
 have h1:Rq w (.agg #[.bool b1,.slice ad1 n1 c1,.slice ae1 m1 d1]) q1:=⟨_,_,_,_,_,_,_,rfl,hn1,hd1⟩
 have ha1:=hn1.abs
 have hb1:=hn1.neg
 obtain⟨b2,ad2,n2,c2,ae2,m2,d2,rfl,hn2,hd2⟩:=h2.shape
 have h2:Rq w (.agg #[.bool b2,.slice ad2 n2 c2,.slice ae2 m2 d2]) q2:=⟨_,_,_,_,_,_,_,rfl,hn2,hd2⟩
 have ha2:=hn2.abs
 have hb2:=hn2.neg
 have st:=St.start w
 refine go2 (nt:=16) Tryz.func29 rfl rfl rfl fun a hF=>?_
 refine wq ?_
 refine bx st hF 0 rfl rfl fun g2 w1 a st hF=>?_
 refine bx st hF 2 rfl rfl fun g3 w2 a st hF=>?_
 refine oC hF rfl fun a hF=>ns ?_
 refine E.rg 11 aF hF [5,6,7,8,9,10,11,12,13,14,15] [_,_,_,_,_,_,_,_,_,_,_] (by decide+kernel) rfl rfl rfl ⟨rfd 2 (fun _=>du (p:=0) rfl) rfl,rld rfl fun _ hb=>(gU (vs:=[.bool b1,.slice ad1 n1 c1]) ((st.b 1 rfl rfl).below hb) rfl rfl),rb st aa 1 0 rfl,ck st k54 rfl fun _ s=>bU (dM _ (q2) _ (h2.below s.bel)),ck st k53 rfl fun _ s _ x8=>d7 (kd _ _ _ _ k k _ (Wc.wz (hn1.below s.bel)) (Dg.nt x8) (l1.1) (l2.2) (by omega) (by omega)) (cR (l1.1) (l2.2)),rfd 1 (fun _=>du (p:=0) rfl) rfl,rld rfl fun _ hb=>(gU (vs:=[.bool b2,.slice ad2 n2 c2]) ((st.b 0 rfl rfl).below hb) rfl rfl),rb st aa 2 1 rfl,ck st k54 rfl fun _ s=>bU (dM _ (q1) _ (h1.below s.bel)),ck st k53 rfl fun _ s _ x13=>d7 (kd _ _ _ _ k k _ (Wc.wz (hn2.below s.bel)) (Dg.nt x13) (l2.1) (l1.2) (by omega) (by omega)) (cR (l2.1) (l1.2)),ck st k55 rfl fun _ s _ x9 _ x14=>a9 (o9 _ _ _ _ _ (Wc.wz x9.1) (Wc.wz x14.1)),trivial⟩ ?_
 intro a w3 hF bb hall
 replace st:=st.to bb
 replace hF:=rE hall hF 10 rfl rfl
 clear hall bb
 refine oE hF 0 rfl rfl fun a hF=>nr ?_
 have bel:=st.bel
 refine rt Tryz.results29 hF 0 rfl ?_
 exact⟨rfl,bel⟩
end
end
end Go.Proofs.YtdbiegfmgabicaaGreatDoor
