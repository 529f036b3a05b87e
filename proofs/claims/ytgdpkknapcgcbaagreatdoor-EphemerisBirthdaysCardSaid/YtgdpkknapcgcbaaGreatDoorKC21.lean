import Derived.Test.YtgdpkknapcgcbaaGreatDoorKC19
namespace Go.Proofs.YtgdpkknapcgcbaaGreatDoor
open Go.RowKit
set_option maxRecDepth 100000
set_option linter.unusedVariables false
set_option maxHeartbeats 8000000
theorem AD (v1 v2:Value) (z1 z2:Int) (k j:Nat) (w:World) (h1:Rz w v1 z1) (h2:Rz w v2 z2) (l1:Lim z1.natAbs k) (l2:Lim z2.natAbs j) (hk:k<=5000) (hj:j<=5000):
 CP 197 #[v1,v2] w (O4 w z1 z2):=by
 obtain⟨b1,ad1,n1,c1,rfl⟩:=h1.form
 have ha1:=h1.abs
 have hb1:=h1.neg
 obtain⟨b2,ad2,n2,c2,rfl⟩:=h2.form
 have ha2:=h2.abs
 have hb2:=h2.neg
 by_cases e2:z2=0
 ·have HE:=Lib.hid (show(0:Int)=Int.fdiv z1 z2/\0=fr z1 z2 by rw[e2];exact⟨(nx z1).1.symm,(nx z1).2.symm⟩)
  have hm2:n2=0:=Dg.len0 (by rw[e2] at ha2;exact ha2)
  clear hb1 hb2 e2
  refine gs2 (nt:=51) Tryz.func197 rfl rfl rfl fun a st hF=>wq<|bx st hF 0 rfl rfl fun g2 w1 a st hF=>bx st hF 2 rfl rfl fun g3 w2 a st hF=>S.alloc st hF bg rfl rfl fun g4 w3 a st hF=>S.alloc st hF bg rfl rfl fun g5 w4 a st hF=>ns<|wq<|oV hF (az hF.q (cj (p:=1) rfl)) rfl fun a hF=>oV hF (ar hF.o (cB (v:= .slice ad2 n2 c2) (st.b 2 rfl rfl) rfl)) rfl fun a hF=>oV hF (aW (aG hF.o) kE) rfl fun a hF=>oT hF 0 (aV (c:=true) (eq0 (by rw[hm2];rfl))) rfl rfl fun a hF=>?_
  refine E.nil<|wp_cond_true hF.o<|wq<|oV hF (bn (by simp) (pI _)) rfl fun a hF=>oV hF (bn (by simp) (pI _)) rfl fun a hF=>so st hF 1 7 1 bg rfl rfl rfl rfl fun w5 a st hF=>so st hF 0 6 0 bg rfl rfl rfl rfl fun w6 a st hF=>nr<|E.pastr ?_
  have bel:=st.bel
  refine bodyPost_ret (gh Tryz.results197 (hF.at 7 rfl) (bK bg (st.bk 1 rfl) rfl) (hF.at 6 rfl) (bK bg (st.bk 0 rfl) rfl)) hF.dfr ?_
  exact⟨_,_,rfl,(Rz.zero _).cast HE.out.1,(Rz.zero _).cast HE.out.2,bel⟩
 ·have hm2:=Dg.lenp (by decide) ha2 (by omega)
  have hQ:sg (b1 !=b2) (Int.natAbs z1/Int.natAbs z2)=sg (decide (z1<0) !=decide (z2<0)) (Int.natAbs z1/Int.natAbs z2):=by rw[hb1,hb2]
  refine gs2 (nt:=51) Tryz.func197 rfl rfl rfl fun a st hF=>wq<|bx st hF 0 rfl rfl fun g2 w1 a st hF=>bx st hF 2 rfl rfl fun g3 w2 a st hF=>S.alloc st hF bg rfl rfl fun g4 w3 a st hF=>S.alloc st hF bg rfl rfl fun g5 w4 a st hF=>ns<|wq<|oV hF (az hF.q (cj (p:=1) rfl)) rfl fun a hF=>oV hF (ar hF.o (cB (v:= .slice ad2 n2 c2) (st.b 2 rfl rfl) rfl)) rfl fun a hF=>oV hF (aW (aG hF.o) kE) rfl fun a hF=>oT hF 0 (aV (c:=false) (qB (by omega))) rfl rfl fun a hF=>?_
  refine E.nil<|wp_cond_false hF.o<|wp_skip<|E.norm<|wq<|oV hF (az (hF.at 7 rfl) (cj (p:=1) rfl)) rfl fun a hF=>oV hF (ar hF.o (cB (v:= .slice ad1 n1 c1) (st.b 3 rfl rfl) rfl)) rfl fun a hF=>oV hF (az (hF.at 8 rfl) (cj (p:=1) rfl)) rfl fun a hF=>oV hF (ar hF.o (cB (v:= .slice ad2 n2 c2) (st.b 2 rfl rfl) rfl)) rfl fun a hF=>?_
  refine S.call2 st hF (rgc RV (aL hF.q hF.o)) (AQ _ _ _ _ _ (ha1.below st.bel) (ha2.below st.bel) (Lim.dh l1 _ (by omega)) (Lim.dh l2 _ (by omega))) (fun _ _ h=>h) Dg.cl Dg.cl rfl rfl rfl rfl fun vv6 vv7 w5 a st hF=>?_
  obtain⟨ad10,n10,c10,rfl⟩:=Dg.form (st.f 0 rfl)
  obtain⟨ad11,n11,c11,rfl⟩:=Dg.form (st.f 1 rfl)
  refine oM hF 0 rfl rfl fun a hF=>oV hF (aH (v:= .slice ad10 n10 c10) hF.o rfl) rfl fun a hF=>oV hF (aH (v:= .slice ad11 n11 c11) hF.p rfl) rfl fun a hF=>oA hF 1 rfl rfl fun a hF=>oA hF 1 rfl rfl fun a hF=>nq<|oV hF (az (hF.at 17 rfl) (eu (p:=0) rfl)) rfl fun a hF=>oV hF (ar hF.o (bR (v:= .bool b1) (st.b 3 rfl rfl) rfl)) rfl fun a hF=>oV hF (az (hF.at 18 rfl) (eu (p:=0) rfl)) rfl fun a hF=>oV hF (ar hF.o (bR (v:= .bool b2) (st.b 2 rfl rfl) rfl)) rfl fun a hF=>oV hF (aq hF.q hF.o cZ (iQ (d:=(b1 !=b2)) rfl)) rfl fun a hF=>oM hF 6 rfl rfl fun a hF=>S.ck st hF (rgc k67 (aL hF.p hF.o)) (cP (fF _ _ _ _ (st.f 0 rfl)) (lI _ (Lim.le l1 (Nat.div_le_self _ _)))) Zl.cl rfl fun vv13 w12 a st hF=>?_
  obtain⟨b15,ad15,n15,c15,rfl⟩:=Rz.form (st.f 0 rfl).1
  refine S.new st hF 0 rfl bg rfl rfl rfl rfl rfl fun g8 w16 a st hF=>?_
  have hf17:=Rz.abs (st.f 0 rfl).1
  replace st:=st.add hf17 (Dg.cl _)
  clear hf17
  refine ns<|wp_seq ?_
  by_cases hc18:(sz (z1+(-((sg ((b1 !=b2)) ((Int.natAbs (z1))/(Int.natAbs (z2))))*z2))))*(sz (z2))<0
  ·refine E.rg 11 aM hF [30,31,32,33,34,35,36,37,38,39,40] [_,_,_,_,_,_,_,_,_,.ex (iv ((sz (z1+(-((sg ((b1 !=b2)) ((Int.natAbs (z1))/(Int.natAbs (z2))))*z2))))*(sz (z2)))),.ex (.bool true)] (by decide+kernel) rfl rfl rfl ⟨rb st bg 25 4 rfl,rb st bg 0 0 rfl,rb st bg 24 3 rfl,ck st k70 rfl fun _ s=>cP (fu _ _ _ _ k j _ (s.f 1 rfl).1 (h2.below s.bel) (s.f 1 rfl).2 l2 (by omega) (by omega)) (df (s.f 1 rfl).2 l2),ck st yh rfl fun _ s _ x33=>cP (kS _ _ _ x33.1) (kO x33.2),ck st wy rfl fun _ s _ x34=>cP (iP _ _ _ _ k (k+j) _ (h1.below s.bel) x34.1 l1 x34.2 (by omega) (by omega)) (ip l1 x34.2 ((max k (k+j))+1) (by omega) (by omega)),ck st vN rfl fun _ s _ x35=>bD (jR _ _ _ x35.1),rb st bg 24 3 rfl,ck st vN rfl fun _ s=>bD (jR _ _ _ (h2.below s.bel)),(by intro a' w' hF' hb hd;have e36:=tE hd 0 rfl;have e38:=tE hd 1 rfl;exact dv0 (aq e36 e38 aa (gT (nf (nm _) (nm _)).1 (nf (nm _) (nm _)).2)) rfl rfl rfl),(by intro a' w' hF' hb hd;have e39:=tE hd 0 rfl;exact dv0 (aq e39 ao aa (aO (aY (c:=true) (aI hc18)) (by simp))) rfl rfl rfl),trivial⟩ ?_
   intro a w19 hF bb hall
   replace st:=st.to bb
   replace hF:=rE hall hF 10 rfl rfl
   clear hall bb
   refine E.nil<|wp_cond_true hF.o ?_
   refine E.rg 3 aM hF [41,42,43] [_,_,_] (by decide+kernel) rfl rfl rfl ⟨rb st bg 1 0 rfl,ck st I8 rfl fun _ s=>cP (vv ((-1)) _ (by decide) (by decide)) (Mz (by decide)),ck st wy rfl fun _ s _ x42=>cP (iP _ _ _ _ k 2 _ (s.f 1 rfl).1 x42.1 (s.f 1 rfl).2 x42.2 (by omega) (by omega)) (ip (s.f 1 rfl).2 x42.2 ((max k 2)+1) (by omega) (by omega)),trivial⟩ ?_
   intro a w20 hF bb hall
   replace st:=st.to bb
   obtain⟨vv21,hF,st⟩:=rS hall hF st 2 rfl rfl Zl.cl
   obtain⟨b23,ad23,n23,c23,rfl⟩:=Rz.form (st.f 0 rfl).1
   clear hall bb
   refine so st hF 0 2 0 bg rfl rfl rfl rfl fun w24 a st hF=>?_
   have hf25:=Rz.abs (st.f 0 rfl).1
   replace st:=st.add hf25 (Dg.cl _)
   clear hf25
   refine ns ?_
   refine E.rg 7 aM hF [44,45,46,47,48,49,50] [_,_,_,_,_,_,_] (by decide+kernel) rfl rfl rfl ⟨rb st bg 2 0 rfl,rb st bg 27 4 rfl,rb st bg 2 0 rfl,rb st bg 26 3 rfl,ck st k70 rfl fun _ s=>cP (fu _ _ _ _ ((max k 2)+1) j _ (s.f 1 rfl).1 (h2.below s.bel) (s.f 1 rfl).2 l2 (by omega) (by omega)) (df (s.f 1 rfl).2 l2),ck st yh rfl fun _ s _ x48=>cP (kS _ _ _ x48.1) (kO x48.2),ck st wy rfl fun _ s _ x49=>cP (iP _ _ _ _ k (((max k 2)+1)+j) _ (h1.below s.bel) x49.1 l1 x49.2 (by omega) (by omega)) (ip l1 x49.2 ((max k (((max k 2)+1)+j))+1) (by omega) (by omega)),trivial⟩ ?_
   intro a w26 hF bb hall
   replace st:=st.to bb
   replace hF:=rE hall hF 0 rfl rfl
   obtain⟨vv27,hF,st⟩:=rS hall hF st 6 rfl rfl Zl.cl
   obtain⟨b29,ad29,n29,c29,rfl⟩:=Rz.form (st.f 0 rfl).1
   clear hall bb
   refine so st hF 2 27 1 bg rfl rfl rfl rfl fun w30 a st hF=>so st hF 1 26 0 bg rfl rfl rfl rfl fun w31 a st hF=>?_
   have hf32:=Rz.abs (st.f 0 rfl).1
   replace st:=st.add hf32 (Dg.cl _)
   clear hf32
   refine nr ?_
   have bel:=st.bel
   refine bodyPost_ret (gh Tryz.results197 (hF.at 27 rfl) (bK bg (st.bk 2 rfl) rfl) (hF.at 26 rfl) (bK bg (st.bk 1 rfl) rfl)) hF.dfr ?_
   have hh22:=(st.f 3 rfl).1
   have hh28:=(st.f 1 rfl).1
   have HE:=MG hQ e2 hc18
   exact⟨_,_,rfl,Rz.cast hh22 HE.1,Rz.cast hh28 HE.2,bel⟩
  ·refine E.rg 11 aM hF [30,31,32,33,34,35,36,37,38,39,40] [_,_,_,_,_,_,_,_,_,.ex (iv ((sz (z1+(-((sg ((b1 !=b2)) ((Int.natAbs (z1))/(Int.natAbs (z2))))*z2))))*(sz (z2)))),.ex (.bool false)] (by decide+kernel) rfl rfl rfl ⟨rb st bg 25 4 rfl,rb st bg 0 0 rfl,rb st bg 24 3 rfl,ck st k70 rfl fun _ s=>cP (fu _ _ _ _ k j _ (s.f 1 rfl).1 (h2.below s.bel) (s.f 1 rfl).2 l2 (by omega) (by omega)) (df (s.f 1 rfl).2 l2),ck st yh rfl fun _ s _ x33=>cP (kS _ _ _ x33.1) (kO x33.2),ck st wy rfl fun _ s _ x34=>cP (iP _ _ _ _ k (k+j) _ (h1.below s.bel) x34.1 l1 x34.2 (by omega) (by omega)) (ip l1 x34.2 ((max k (k+j))+1) (by omega) (by omega)),ck st vN rfl fun _ s _ x35=>bD (jR _ _ _ x35.1),rb st bg 24 3 rfl,ck st vN rfl fun _ s=>bD (jR _ _ _ (h2.below s.bel)),(by intro a' w' hF' hb hd;have e36:=tE hd 0 rfl;have e38:=tE hd 1 rfl;exact dv0 (aq e36 e38 aa (gT (nf (nm _) (nm _)).1 (nf (nm _) (nm _)).2)) rfl rfl rfl),(by intro a' w' hF' hb hd;have e39:=tE hd 0 rfl;exact dv0 (aq e39 ao aa (aO (aY (c:=false) (aJ hc18)) (by simp))) rfl rfl rfl),trivial⟩ ?_
   intro a w33 hF bb hall
   replace st:=st.to bb
   replace hF:=rE hall hF 10 rfl rfl
   clear hall bb
   refine E.nil<|wp_cond_false hF.o<|wp_skip<|E.norm<|wp_seq ?_
   refine E.rg 7 aM hF [44,45,46,47,48,49,50] [_,_,_,_,_,_,_] (by decide+kernel) rfl rfl rfl ⟨rb st bg 1 0 rfl,rb st bg 26 4 rfl,rb st bg 1 0 rfl,rb st bg 25 3 rfl,ck st k70 rfl fun _ s=>cP (fu _ _ _ _ k j _ (s.f 1 rfl).1 (h2.below s.bel) (s.f 1 rfl).2 l2 (by omega) (by omega)) (df (s.f 1 rfl).2 l2),ck st yh rfl fun _ s _ x48=>cP (kS _ _ _ x48.1) (kO x48.2),ck st wy rfl fun _ s _ x49=>cP (iP _ _ _ _ k (k+j) _ (h1.below s.bel) x49.1 l1 x49.2 (by omega) (by omega)) (ip l1 x49.2 ((max k (k+j))+1) (by omega) (by omega)),trivial⟩ ?_
   intro a w34 hF bb hall
   replace st:=st.to bb
   replace hF:=rE hall hF 0 rfl rfl
   obtain⟨vv35,hF,st⟩:=rS hall hF st 6 rfl rfl Zl.cl
   obtain⟨b37,ad37,n37,c37,rfl⟩:=Rz.form (st.f 0 rfl).1
   clear hall bb
   refine so st hF 2 26 1 bg rfl rfl rfl rfl fun w38 a st hF=>so st hF 1 25 0 bg rfl rfl rfl rfl fun w39 a st hF=>?_
   have hf40:=Rz.abs (st.f 0 rfl).1
   replace st:=st.add hf40 (Dg.cl _)
   clear hf40
   refine nr ?_
   have bel:=st.bel
   refine bodyPost_ret (gh Tryz.results197 (hF.at 26 rfl) (bK bg (st.bk 2 rfl) rfl) (hF.at 25 rfl) (bK bg (st.bk 1 rfl) rfl)) hF.dfr ?_
   have hh14:=(st.f 3 rfl).1
   have hh36:=(st.f 1 rfl).1
   have HE:=Mu hQ e2 hc18
   exact⟨_,_,rfl,Rz.cast hh14 HE.1,Rz.cast hh36 HE.2,bel⟩
theorem Rr.rlim {w:World} {v:Value} {q:Rat} {k:Nat} (h:Rr w v q k):av q k:=by
 obtain⟨_,_,_,_,_,_,_,z,D,_,_,_,hD,rfl,l1,l2⟩:=h
 exact nZ l1 l2 (by omega)
theorem Pc (z:Int):((z:Int):Rat)=mkRat z 1:=by rw[Rat.mkRat_one]
theorem pl (v1:Value) (z1:Int) (k:Nat) (w:World) (h1:Rz w v1 z1) (l1:Lim z1.natAbs k) (hp:1<=k):
 CP 141 #[v1] w (cf w ((z1:Int):Rat) k):=by
 obtain⟨b1,ad1,n1,c1,rfl⟩:=h1.form
 have ha1:=h1.abs
 have hb1:=h1.neg
 refine gs1 (nt:=6) Tryz.func141 rfl rfl rfl fun a st hF=>wq<|bx st hF 0 rfl rfl fun g1 w1 a st hF=>S.alloc st hF ag rfl rfl fun g2 w2 a st hF=>nq<|oL hF st 1 1 bg rfl rfl rfl rfl fun a hF=>?_
 obtain⟨vv3,w4,hr,bb,hh5⟩:=ym w2
 refine oV hF (bO (eQ ao) hr) rfl fun a hF=>?_
 replace st:=(st.to bb).add hh5 (Dg.cl _)
 clear hr bb hh5
 obtain⟨ad6,n6,c6,rfl⟩:=Dg.form (st.f 0 rfl)
 refine oV hF (bn (gG hF.p hF.o) (kr _ _ _ _ _ _ _ _)) rfl fun a hF=>so st hF 0 3 0 ag rfl rfl rfl rfl fun w7 a st hF=>nr<|rs Tryz.results141 st hF 3 0 ag rfl rfl rfl ?_
 exact⟨_,rfl,(Rr.mk (h1.below st.bel) (st.f 0 rfl) (by decide) (Pc z1) l1 (Lim.one hp)),st.bel⟩
theorem PT {D:Nat} (h:0<D):(0:Rat)<(D:Rat):=Rat.natCast_pos.2 h
theorem Mg {z:Int} {D:Nat} (h:0<D):Int.fdiv z ((D:Nat):Int)=(mkRat z D).floor :=by
 have hD:(0:Int)<((D:Nat):Int):=by omega
 have e1:=Int.mul_ediv_add_emod z ((D:Nat):Int)
 have e2:=Int.emod_nonneg z (b:=((D:Nat):Int)) (by omega)
 have e3:=Int.emod_lt_of_pos z hD
 rw[Int.fdiv_eq_ediv_of_nonneg _ (by omega)]
 generalize z/((D:Nat):Int)=k at*
 have p:=PT h
 symm
 rw[Rat.mkRat_eq_div]
 have c1:k*((D:Nat):Int)<=z:=by rw[Int.mul_comm];omega
 have c2:z<(k+1)*((D:Nat):Int):=by rw[Int.add_mul,Int.mul_comm k];omega
 have r1:=Rat.intCast_le_intCast.2 c1
 have r2:=Rat.intCast_lt_intCast.2 c2
 rw[Rat.intCast_mul,Rat.intCast_natCast] at r1 r2
 rw[Rat.intCast_add,Rat.intCast_one] at r2
 have l1:k<=((z:Rat)/(D:Rat)).floor :=Rat.le_floor_iff.2 (Rat.not_lt.1 fun hn=>by rw[Rat.div_lt_iff p] at hn;grind)
 have l2:((z:Rat)/(D:Rat)).floor <k+1:=Rat.floor_lt_iff.2 (by rw[Rat.div_lt_iff p,Rat.intCast_add,Rat.intCast_one];exact r2)
 omega
theorem Rz.castM {w:World} {v:Value} {z z':Int} (h:Rz w v z) (e:z=z'):Rz w v z':=by subst e;exact h
theorem Ed {a b:Rat}:0<=qc a b↔sz (b-a).num <=0:=by
 rw[mK,yU]
 by_cases h1:a<b
 ·rw[if_pos h1]
  constructor
  ·intro h;omega
  ·intro h;grind
 ·rw[if_neg h1]
  constructor
  ·intro _;grind
  ·intro _;split <;> omega
theorem kl (v1:Value) (q1:Rat) (k:Nat) (w:World) (h1:Rr w v1 q1 k) (hp:1<=k) (hk:k<=5000):
 CP 142 #[v1] w (ke w (Rat.floor q1)):=by
 have rl1:=h1.rlim
 obtain⟨b1,ad1,n1,c1,ae1,m1,d1,z1,D1,rfl,hn1,hd1,hD1,hq1,lz1,lD1⟩:=h1.shape
 have ha1:=hn1.abs
 have hb1:=hn1.neg
 replace hq1:=Lib.hid hq1
 refine gs1 (nt:=15) Tryz.func142 rfl rfl rfl fun a st hF=>wq<|bx st hF 0 rfl rfl fun g1 w1 a st hF=>S.alloc st hF bg rfl rfl fun g2 w2 a st hF=>nq<|oV hF (az hF.p (fi (p:=0) rfl)) rfl fun a hF=>oV hF (ar hF.o (gQ (vs:=[.bool b1,.slice ad1 n1 c1]) (st.b 1 rfl rfl) rfl rfl)) rfl fun a hF=>oV hF (az (hF.at 3 rfl) (fE (p:=2) rfl)) rfl fun a hF=>oV hF (ar hF.o (cB (v:= .slice ae1 m1 d1) (st.b 1 rfl rfl) rfl)) rfl fun a hF=>oV hF (bn (eQ hF.o) (hC _ _ _ _)) rfl fun a hF=>?_
 refine S.call2 st hF (rk RK (aL (hF.at 3 rfl) hF.o)) (AD _ _ _ _ k k _ (hn1.below st.bel) (Rz.nat (hd1.below st.bel)) lz1 (cY lD1) (by omega) (by omega)) (fun _ _ h=>h) Rz.cl Rz.cl rfl rfl rfl rfl fun vv4 vv5 w3 a st hF=>?_
 obtain⟨b8,ad8,n8,c8,rfl⟩:=Rz.form (st.f 0 rfl)
 obtain⟨b9,ad9,n9,c9,rfl⟩:=Rz.form (st.f 1 rfl)
 refine oM hF 0 rfl rfl fun a hF=>oV hF (aH (v:= .agg #[.bool b8,.slice ad8 n8 c8]) hF.o rfl) rfl fun a hF=>oV hF (aH (v:= .agg #[.bool b9,.slice ad9 n9 c9]) hF.p rfl) rfl fun a hF=>S.alloc st hF bg rfl rfl fun g3 w10 a st hF=>S.alloc st hF bg rfl rfl fun g4 w11 a st hF=>so st hF 1 1 3 bg rfl rfl rfl rfl fun w12 a st hF=>?_
 have hf13:=Rz.abs (st.f 0 rfl)
 replace st:=st.add hf13 (Dg.cl _)
 clear hf13
 refine so st hF 0 0 2 bg rfl rfl rfl rfl fun w14 a st hF=>?_
 have hf15:=Rz.abs (st.f 2 rfl)
 replace st:=st.add hf15 (Dg.cl _)
 clear hf15
 refine nq<|oL hF st 1 1 bg rfl rfl rfl rfl fun a hF=>so st hF 2 12 0 bg rfl rfl rfl rfl fun w16 a st hF=>nr<|rs Tryz.results142 st hF 12 2 bg rfl rfl rfl ?_
 exact⟨_,rfl,Rz.castM (st.f 2 rfl) (by rw[hq1.out];exact Mg hD1),st.bel⟩
theorem Er {w:World} {ad:Option Addr} {n c X:Nat} (h:Dg w .i64 65536 (.slice ad n c) X) (h0:0<X) (h1:X<65536):∃b off,ad=some ⟨b,off,none⟩/\n=1/\w.cell? ⟨b,off,none⟩=some (iv ((X:Nat):Int)):=by
 have hd:dg 65536 X=[X]:=by
  rw[lv (by decide) h0,Nat.mod_eq_of_lt h1,Nat.div_eq_of_lt h1,gf]
 obtain⟨ad',cap,h1,⟨hr⟩,_⟩:=h
 rw[hd] at h1 hr
 injection h1 with e1 e2 e3
 subst e1
 obtain⟨b,off,e,_,hc⟩:=hr 0 (by simp)
 exact⟨b,off,e,by simpa using e2,hc⟩
theorem ME {w:World} {b off n c:Nat} (hn:0<n):(Instr.indexAt 41 (.slice (some ⟨b,off,none⟩) n c) (iv 0)).run Tryz.prog w= .ok (.pointer (some ⟨b,off,none⟩)) w:=by
 simp[Instr.indexAt,asIntOf,run_underlying Tryz.underlying41,Sem.run_bind,Addr.add_mid]
 intro e;omega
theorem Cg (x:Rat):x*(((4:Int):Rat)/((15:Int):Rat))=x/wd:=by
 rw[fp,show((4:Int):Rat)/((15:Int):Rat)=4/15 by decide+kernel];grind
theorem QU:((15:Int):Rat)/((4:Int):Rat)=wd:=by decide+kernel
theorem tS (x:Rat):(rmod (x*(((4:Int):Rat)/((15:Int):Rat))) ((96:Int):Rat)).floor =pk x:=by rw[Cg];rfl
theorem Mw (x:Rat):(((spk (pk x):Int):Rat)+(rmod (x*(((4:Int):Rat)/((15:Int):Rat))) ((96:Int):Rat)-((pk x:Int):Rat))*((spk (pk x+1)-spk (pk x):Int):Rat))*(((1:Int):Rat)/((3438:Int):Rat))=sof x:=by
 rw[Cg,<-nY]
 unfold pfr
 rw[show((1:Int):Rat)/((3438:Int):Rat)=1/3438 by decide+kernel,fD]
 grind
theorem Fw {x:Rat} {j:Nat} (hx:¬x<0) (hj:j<24) (e:yk (x*((3438:Int):Rat))=j):(((((j:Nat):Int):Int):Rat)+(x*((3438:Int):Rat)-((spk ((j:Nat):Int):Int):Rat))/((spk (((j:Nat):Int)+1)-spk ((j:Nat):Int):Int):Rat))*(((15:Int):Rat)/((4:Int):Rat))=bF x:=by
 rw[<-yw hx hj e,QU,Rat.add_comm]
theorem pH (k:Int) (w:World) (h0:0<=k) (h1:k<=24):CV 287 #[iv k] w (iv (spk k)):=by
 have:=qG k w
 rwa[show hiv k=spk k from Ch h0 h1] at this
theorem nW (k:Int): -3438<=spk k/\spk k<=3438:=lZ k
theorem zS (k:Int): -225<=spk (k+1)-spk k/\spk (k+1)-spk k<=225:=ji k
theorem Du (v1:Value) (z1:Int) (w:World) (h1:Rz w v1 z1) (h0:0<=z1) (hs:z1<65536):
 CV 218 #[v1] w (iv z1):=by
 obtain⟨b1,ad1,n1,c1,rfl⟩:=h1.form
 have ha1:=h1.abs
 have hb1:=h1.neg
 have hbf:b1=false:=by rw[hb1];exact decide_eq_false (by omega)
 have hlen:(z1=0/\n1=0)\/(0<z1/\n1=1):=by
  by_cases e:z1=0
  ·left;refine⟨e,?_⟩;have h:=ha1;rw[e] at h;exact Dg.len0 h
  ·right;refine⟨by omega,?_⟩;obtain⟨_,_,_,h,_⟩:=Er ha1 (by omega) (by omega);exact h
 clear hb1
 have bel:Below w.heap.size w w:=Below.refl _ _
 refine go1 (nt:=26) Tryz.func218 rfl rfl rfl fun a hF=>wq ?_
 obtain⟨g1,w1,ge1,hr,bb,o1⟩:=mo (P:=Tryz.prog) (w:=w) (cs:=[.bool b1,.slice ad1 n1 c1]) (v:= .agg #[.bool b1,.slice ad1 n1 c1]) 43 rfl (niB (niS ni0))
 replace ge1:w.heap.size<=g1:=by rw[<-ge1];exact bel.size
 refine oV hF (nj hF.o hr) rfl fun a hF=>?_
 clear hr
 replace bel:=aF bel bb
 clear bb
 refine oC hF rfl fun a hF=>nq ?_
 refine oC hF rfl fun a hF=>ns<|wq<|oV hF (az hF.q (cj (p:=1) rfl)) rfl fun a hF=>oV hF (ar hF.o (cB (v:= .slice ad1 n1 c1) o1 rfl)) rfl fun a hF=>oV hF (aW (aG hF.o) kE) rfl fun a hF=>oV hF (aq hF.o ao aa (bB (by omega) (by omega))) rfl fun a hF=>oA hF 0 rfl rfl fun a hF=>E.nil<|wp_block ?_
 refine E.loop (fun mq a wv=>∃(i:Int) (n:Int),((i= -1/\n=z1)\/(i=0/\n=0/\0<z1))/\Fr 26 a [(4,iv i),(3,iv n),(2,iv 0),(1,.pointer (some ⟨g1,0,none⟩))]/\Below w1.heap.size w1 wv/\Below w.heap.size w wv/\mq=(i+1:Int).toNat) (((((n1:Nat):Int)-1)+1:Int).toNat) ?_ ?_
 ·exact⟨(((n1:Nat):Int)-1:Int),(0:Int),(by omega),hF.sub (by intro p hp;simp only [List.mem_cons,List.not_mem_nil,or_false] at hp ⊢;rcases hp with rfl|rfl|rfl|rfl <;> simp),Below.refl _ _,bel,rfl⟩
 ·rintro mq a w2 ⟨i,n,hin,hF,sty,bel,hm⟩
  replace o1:=o1.below sty
  refine wp_seq<|wq<|oM hF 0 rfl rfl fun a hF=>?_
  by_cases hc3:0<=i
  ·refine oT hF 0 (dI (c:=true) (aI hc3)) rfl rfl fun a hF=>E.nil<|wp_cond_true hF.o<|wp_skip<|E.norm<|wp_seq<|wp_block<|E.seq<|oM hF 3 rfl rfl fun a hF=>oV hF (aq ao hF.o aa (gT (by omega) (by omega))) rfl fun a hF=>oV hF (az (hF.at 7 rfl) (cj (p:=1) rfl)) rfl fun a hF=>oV hF (ar hF.o (cB (v:= .slice ad1 n1 c1) o1 rfl)) rfl fun a hF=>oM hF 6 rfl rfl fun a hF=>?_
   have hz0:0<Int.natAbs z1:=by omega
   obtain⟨gr,og,hag,hn1,hcl⟩:=Er (ha1.below bel) hz0 (by omega)
   have hi0:i=0:=by omega
   refine oV hF (bS hF.p hF.o (by rw[hi0,hag];exact ME (by omega))) rfl fun a hF=>oV hF (ar hF.o (vG hcl)) rfl fun a hF=>oV hF (aq (hF.at 5 rfl) hF.o aa (aX (by omega) (by omega))) rfl fun a hF=>?_
   refine E.opset (L':=[(3,iv ((65536*n)+((Int.natAbs z1:Nat):Int))),(20,iv ((65536*n)+((Int.natAbs z1:Nat):Int))),(19,iv ((Int.natAbs z1:Nat):Int)),(18,.pointer (some ⟨gr,og,none⟩)),(17,iv i),(16,.slice ad1 n1 c1),(15,.pointer (some ⟨g1,1,none⟩)),(14,iv (65536*n)),(13,iv n),(10,.bool true),(9,iv i),(4,iv i),(2,iv 0),(1,.pointer (some ⟨g1,0,none⟩))]) hF (aZ hF.o) rfl rfl rfl rfl fun a hF=>?_
   refine E.nil0<|E.blk<|E.norm<|E.seq<|oM hF 11 rfl rfl fun a hF=>oV hF (aq hF.o ao aa (bB (by omega) (by omega))) rfl fun a hF=>?_
   refine E.opset (L':=[(4,iv (i-1)),(12,iv (i-1)),(11,iv i),(3,iv ((65536*n)+((Int.natAbs z1:Nat):Int))),(20,iv ((65536*n)+((Int.natAbs z1:Nat):Int))),(19,iv ((Int.natAbs z1:Nat):Int)),(18,.pointer (some ⟨gr,og,none⟩)),(17,iv i),(16,.slice ad1 n1 c1),(15,.pointer (some ⟨g1,1,none⟩)),(14,iv (65536*n)),(13,iv n),(10,.bool true),(9,iv i),(2,iv 0),(1,.pointer (some ⟨g1,0,none⟩))]) hF (aZ hF.o) rfl rfl rfl rfl fun a hF=>?_
   refine E.nil0<|E.norm ?_
   exact⟨((i-1)+1:Int).toNat,by omega,⟨(i-1:Int),((65536*n)+((Int.natAbs z1:Nat):Int):Int),(by omega),Fr.sub (L':=[(4,iv (i-1)),(3,iv ((65536*n)+((Int.natAbs z1:Nat):Int))),(2,iv 0),(1,.pointer (some ⟨g1,0,none⟩))]) hF (by intro p hp;simp only [List.mem_cons,List.not_mem_nil,or_false] at hp ⊢;rcases hp with rfl|rfl|rfl|rfl <;> simp),sty,bel,rfl⟩⟩
  ·refine oT hF 0 (dI (c:=false) (aJ hc3)) rfl rfl fun a hF=>E.nil<|wp_cond_false hF.o<|wp_exit<|E.past<|E.past<|E.out (id:=0)<|E.norm<|wp_seq<|wq<|oV hF (az (hF.at 5 rfl) (eu (p:=0) rfl)) rfl fun a hF=>oV hF (ar hF.o (bR (v:= .bool b1) o1 rfl)) rfl fun a hF=>?_
   refine E.nil ?_
   refine wp_cond_false (Eq.trans hF.o (congrArg Value.bool hbf)) ?_
   refine wp_skip<|E.norm<|wq<|oM hF 5 rfl rfl fun a hF=>?_
   refine E.opset (L':=[(2,iv n),(25,iv n),(22,.bool b1),(21,.pointer (some ⟨g1,0,none⟩)),(10,.bool false),(9,iv i),(4,iv i),(3,iv n),(1,.pointer (some ⟨g1,0,none⟩))]) hF (aZ hF.o) rfl rfl rfl rfl fun a hF=>?_
   refine nr<|rt Tryz.results218 hF 0 rfl ?_
   refine⟨ch ?_,bel⟩
   omega
end Go.Proofs.YtgdpkknapcgcbaaGreatDoor
