import Derived.Test.YtnljadejcfgmaaaGreatDoorKB16
namespace Go.Proofs.YtnljadejcfgmaaaGreatDoor
open Go.RowKit
set_option maxRecDepth 100000
set_option linter.unusedVariables false
set_option maxHeartbeats 8000000
theorem ul (v1 v2:Value) (z1 z2:Int) (k j:Nat) (w:World) (h1:Rz w v1 z1) (h2:Rz w v2 z2) (l1:Lim z1.natAbs k) (l2:Lim z2.natAbs j) (hk:k≤5000) (hj:j≤5000):
 Calls Tryz.prog 170 #[v1,v2] w (EH w z1 z2):=by
 obtain⟨b1,ad1,n1,c1,rfl⟩:=h1.form
 have ha1:=h1.abs
 have hb1:=h1.neg
 obtain⟨b2,ad2,n2,c2,rfl⟩:=h2.form
 have ha2:=h2.abs
 have hb2:=h2.neg
 by_cases e2:z2=0
 ·have HE:=Lib.hid (show(0:Int)=Int.fdiv z1 z2∧0=fr z1 z2 by rw[e2];exact⟨(kD z1).1.symm,(kD z1).2.symm⟩)
  have hm2:n2=0:=Dg.len0 (by rw[e2] at ha2;exact ha2)
  clear hb1 hb2 e2
  have bel:Below w.heap.size w w:=Below.refl _ _
  refine go2 (nt:=51) Tryz.func170 rfl rfl rfl fun a hF=>?_
  refine wq ?_
  obtain⟨g2,w1,ge2,hr,bb,o2⟩:=dM (P:=Tryz.prog) (w:=w) (cs:=[.bool b1,.slice ad1 n1 c1]) (v:= .agg #[.bool b1,.slice ad1 n1 c1]) 38 rfl (niB (niS ni0))
  replace ge2:w.heap.size≤g2:=by rw[←ge2];exact bel.size
  refine oV hF (eJ (hF.at 0 rfl) hr) rfl fun a hF=>?_
  clear hr
  replace bel:=ar bel bb
  clear bb
  obtain⟨g3,w2,ge3,hr,bb,o3⟩:=dM (P:=Tryz.prog) (w:=w1) (cs:=[.bool b2,.slice ad2 n2 c2]) (v:= .agg #[.bool b2,.slice ad2 n2 c2]) 38 rfl (niB (niS ni0))
  have ne2_3:g2≠g3:=by rw[←ge3];exact o2.ne_new
  replace ge3:w.heap.size≤g3:=by rw[←ge3];exact bel.size
  refine oV hF (eJ (hF.at 2 rfl) hr) rfl fun a hF=>?_
  clear hr
  replace o2:=o2.below bb
  replace bel:=ar bel bb
  clear bb
  obtain⟨g4,w3,ge4,hr,bb,o4⟩:=bP (P:=Tryz.prog) (w:=w2) (cs:=[.bool false,.slice none 0 0]) 38 eh rfl (niB (niS ni0))
  have ne2_4:g2≠g4:=by rw[←ge4];exact o2.ne_new
  have ne3_4:g3≠g4:=by rw[←ge4];exact o3.ne_new
  replace ge4:w.heap.size≤g4:=by rw[←ge4];exact bel.size
  refine oV hF (cf hr) rfl fun a hF=>?_
  clear hr
  replace o2:=o2.below bb
  replace o3:=o3.below bb
  replace bel:=ar bel bb
  clear bb
  obtain⟨g5,w4,ge5,hr,bb,o5⟩:=bP (P:=Tryz.prog) (w:=w3) (cs:=[.bool false,.slice none 0 0]) 38 eh rfl (niB (niS ni0))
  have ne2_5:g2≠g5:=by rw[←ge5];exact o2.ne_new
  have ne3_5:g3≠g5:=by rw[←ge5];exact o3.ne_new
  have ne4_5:g4≠g5:=by rw[←ge5];exact o4.ne_new
  replace ge5:w.heap.size≤g5:=by rw[←ge5];exact bel.size
  refine oV hF (cf hr) rfl fun a hF=>?_
  clear hr
  replace o2:=o2.below bb
  replace o3:=o3.below bb
  replace o4:=o4.below bb
  replace bel:=ar bel bb
  clear bb
  refine ns ?_
  refine wq ?_
  refine oV hF (aA (hF.at 2 rfl) (cy (p:=1) rfl)) rfl fun a hF=>?_
  refine oV hF (av (hF.at 0 rfl) (cp (v:= .slice ad2 n2 c2) o3 rfl)) rfl fun a hF=>?_
  refine oV hF (cr (aI (hF.at 0 rfl)) gD) rfl fun a hF=>?_
  refine oV hF (aq (hF.at 0 rfl) ao ab (aw (aX (c:=true) (eq0 (by rw[hm2];rfl))) (by simp))) rfl fun a hF=>?_
  refine E.nil ?_
  refine wp_cond_true (hF.at 0 rfl) ?_
  refine wq ?_
  refine oV hF (bh (by simp) (lI _)) rfl fun a hF=>?_
  refine oV hF (bh (by simp) (lI _)) rfl fun a hF=>?_
  obtain⟨w5,hr,tu,on⟩:=gu (vs:=[.bool false,.slice none 0 0]) o4 rfl rfl (ocB (ocS oc0)) (niB (niS ni0)) (o:=0) rfl
  have kp:=tu.keep o4
  refine E.st hF (cd (hF.at 7 rfl) (hF.at 1 rfl) (hr _ rfl)) rfl rfl fun a hF=>?_
  clear hr
  replace o2:=tu.own o2 ne2_4
  replace o3:=tu.own o3 ne3_4
  replace o5:=tu.own o5 (Ne.symm ne4_5)
  replace bel:=tu.below bel ge4
  clear tu kp
  replace o4:=on
  clear on
  obtain⟨w6,hr,tu,on⟩:=gu (vs:=[.bool false,.slice none 0 0]) o5 rfl rfl (ocB (ocS oc0)) (niB (niS ni0)) (o:=0) rfl
  have kp:=tu.keep o5
  refine E.st hF (cd (hF.at 6 rfl) (hF.at 0 rfl) (hr _ rfl)) rfl rfl fun a hF=>?_
  clear hr
  replace o2:=tu.own o2 ne2_5
  replace o3:=tu.own o3 ne3_5
  replace o4:=tu.own o4 ne4_5
  replace bel:=tu.below bel ge5
  clear tu kp
  replace o5:=on
  clear on
  refine nr ?_
  refine bodyPost_ret (mW Tryz.results170 (hF.at 7 rfl) (bJ (vs:=[.bool false,.slice none 0 0]) o4 rfl rfl) (hF.at 6 rfl) (bJ (vs:=[.bool false,.slice none 0 0]) o5 rfl rfl)) hF.dfr ?_
  exact⟨_,_,rfl,(Rz.zero _).cast HE.out.1,(Rz.zero _).cast HE.out.2,bel⟩
 ·have hm2:=Dg.lenp (by decide) ha2 (by omega)
  have hQ:sg (b1 !=b2) (Int.natAbs z1/Int.natAbs z2)=sg (decide (z1<0) !=decide (z2<0)) (Int.natAbs z1/Int.natAbs z2):=by rw[hb1,hb2]
  by_cases HT:sz ((z1)+(-((sg (b1 !=b2) ((Int.natAbs (z1))/(Int.natAbs (z2))))*(z2))))*sz (z2)<0
  ·have HE:=Lib.hid (DT hQ e2 HT)
   clear hQ hb1 hb2 e2
   have bel:Below w.heap.size w w:=Below.refl _ _
   refine go2 (nt:=51) Tryz.func170 rfl rfl rfl fun a hF=>?_
   refine wq ?_
   obtain⟨g2,w1,ge2,hr,bb,o2⟩:=dM (P:=Tryz.prog) (w:=w) (cs:=[.bool b1,.slice ad1 n1 c1]) (v:= .agg #[.bool b1,.slice ad1 n1 c1]) 38 rfl (niB (niS ni0))
   replace ge2:w.heap.size≤g2:=by rw[←ge2];exact bel.size
   refine oV hF (eJ (hF.at 0 rfl) hr) rfl fun a hF=>?_
   clear hr
   replace bel:=ar bel bb
   clear bb
   obtain⟨g3,w2,ge3,hr,bb,o3⟩:=dM (P:=Tryz.prog) (w:=w1) (cs:=[.bool b2,.slice ad2 n2 c2]) (v:= .agg #[.bool b2,.slice ad2 n2 c2]) 38 rfl (niB (niS ni0))
   have ne2_3:g2≠g3:=by rw[←ge3];exact o2.ne_new
   replace ge3:w.heap.size≤g3:=by rw[←ge3];exact bel.size
   refine oV hF (eJ (hF.at 2 rfl) hr) rfl fun a hF=>?_
   clear hr
   replace o2:=o2.below bb
   replace bel:=ar bel bb
   clear bb
   obtain⟨g4,w3,ge4,hr,bb,o4⟩:=bP (P:=Tryz.prog) (w:=w2) (cs:=[.bool false,.slice none 0 0]) 38 eh rfl (niB (niS ni0))
   have ne2_4:g2≠g4:=by rw[←ge4];exact o2.ne_new
   have ne3_4:g3≠g4:=by rw[←ge4];exact o3.ne_new
   replace ge4:w.heap.size≤g4:=by rw[←ge4];exact bel.size
   refine oV hF (cf hr) rfl fun a hF=>?_
   clear hr
   replace o2:=o2.below bb
   replace o3:=o3.below bb
   replace bel:=ar bel bb
   clear bb
   obtain⟨g5,w4,ge5,hr,bb,o5⟩:=bP (P:=Tryz.prog) (w:=w3) (cs:=[.bool false,.slice none 0 0]) 38 eh rfl (niB (niS ni0))
   have ne2_5:g2≠g5:=by rw[←ge5];exact o2.ne_new
   have ne3_5:g3≠g5:=by rw[←ge5];exact o3.ne_new
   have ne4_5:g4≠g5:=by rw[←ge5];exact o4.ne_new
   replace ge5:w.heap.size≤g5:=by rw[←ge5];exact bel.size
   refine oV hF (cf hr) rfl fun a hF=>?_
   clear hr
   replace o2:=o2.below bb
   replace o3:=o3.below bb
   replace o4:=o4.below bb
   replace bel:=ar bel bb
   clear bb
   refine ns ?_
   refine wq ?_
   refine oV hF (aA (hF.at 2 rfl) (cy (p:=1) rfl)) rfl fun a hF=>?_
   refine oV hF (av (hF.at 0 rfl) (cp (v:= .slice ad2 n2 c2) o3 rfl)) rfl fun a hF=>?_
   refine oV hF (cr (aI (hF.at 0 rfl)) gD) rfl fun a hF=>?_
   refine oV hF (aq (hF.at 0 rfl) ao ab (aw (aX (c:=false) (jk (by omega))) (by simp))) rfl fun a hF=>?_
   refine E.nil ?_
   refine wp_cond_false (hF.at 0 rfl) ?_
   refine wp_skip ?_
   refine E.norm ?_
   refine wq ?_
   refine oV hF (aA (hF.at 7 rfl) (cy (p:=1) rfl)) rfl fun a hF=>?_
   refine oV hF (av (hF.at 0 rfl) (cp (v:= .slice ad1 n1 c1) o2 rfl)) rfl fun a hF=>?_
   refine oV hF (aA (hF.at 8 rfl) (cy (p:=1) rfl)) rfl fun a hF=>?_
   refine oV hF (av (hF.at 0 rfl) (cp (v:= .slice ad2 n2 c2) o3 rfl)) rfl fun a hF=>?_
   refine E.call hF (rk CA (aC (hF.at 2 rfl) (hF.at 0 rfl))) (nY _ _ (Int.natAbs (z1)) (Int.natAbs (z2)) _ (ha1.below bel) (ha2.below bel) (Lim.dh l1 _ (by omega)) (Lim.dh l2 _ (by omega))) rfl rfl rfl rfl ?_
   rintro e w5 ⟨vv6,vv7,rfl,hh8,hh9,bb⟩
   refine⟨_,rfl,?_⟩
   intro a hF
   replace o2:=o2.below bb
   replace o3:=o3.below bb
   replace o4:=o4.below bb
   replace o5:=o5.below bb
   replace bel:=ar bel bb
   clear bb
   obtain⟨ad10,n10,c10,rfl⟩:=Dg.form hh8
   obtain⟨ad11,n11,c11,rfl⟩:=Dg.form hh9
   refine oM hF 0 rfl rfl fun a hF=>?_
   refine oV hF (aW (v:= .slice ad10 n10 c10) (hF.at 0 rfl) rfl) rfl fun a hF=>?_
   refine oV hF (aW (v:= .slice ad11 n11 c11) (hF.at 1 rfl) rfl) rfl fun a hF=>?_
   refine oA hF 1 rfl rfl fun a hF=>?_
   refine oA hF 1 rfl rfl fun a hF=>?_
   refine nq ?_
   refine oV hF (aA (hF.at 17 rfl) (fh (p:=0) rfl)) rfl fun a hF=>?_
   refine oV hF (av (hF.at 0 rfl) (dP (v:= .bool b1) o2 rfl)) rfl fun a hF=>?_
   refine oV hF (aA (hF.at 18 rfl) (fh (p:=0) rfl)) rfl fun a hF=>?_
   refine oV hF (av (hF.at 0 rfl) (dP (v:= .bool b2) o3 rfl)) rfl fun a hF=>?_
   refine oV hF (aq (hF.at 2 rfl) (hF.at 0 rfl) lr (mB (d:=(b1 !=b2)) rfl)) rfl fun a hF=>?_
   refine oM hF 6 rfl rfl fun a hF=>?_
   refine E.call hF (rk wM (aC (hF.at 1 rfl) (hF.at 0 rfl))) (dD _ _ ((Int.natAbs (z1))/(Int.natAbs (z2))) _ hh8) rfl rfl rfl rfl ?_
   rintro e w12 ⟨vv13,rfl,hh14,bb⟩
   refine⟨_,rfl,?_⟩
   intro a hF
   replace o2:=o2.below bb
   replace o3:=o3.below bb
   replace o4:=o4.below bb
   replace o5:=o5.below bb
   replace bel:=ar bel bb
   clear bb
   obtain⟨b15,ad15,n15,c15,rfl⟩:=Rz.form hh14
   obtain⟨g8,w16,ge8,hr,bb,o8⟩:=bP (P:=Tryz.prog) (w:=w12) (cs:=[.bool false,.slice none 0 0]) 38 eh rfl (niB (niS ni0))
   have ne2_8:g2≠g8:=by rw[←ge8];exact o2.ne_new
   have ne3_8:g3≠g8:=by rw[←ge8];exact o3.ne_new
   have ne4_8:g4≠g8:=by rw[←ge8];exact o4.ne_new
   have ne5_8:g5≠g8:=by rw[←ge8];exact o5.ne_new
   replace ge8:w.heap.size≤g8:=by rw[←ge8];exact bel.size
   refine oV hF (cf hr) rfl fun a hF=>?_
   clear hr
   replace hh14:=hh14.below bb
   replace o2:=o2.below bb
   replace o3:=o3.below bb
   replace o4:=o4.below bb
   replace o5:=o5.below bb
   replace bel:=ar bel bb
   clear bb
   obtain⟨w17,hr,tu,on⟩:=gu (vs:=[.bool b15,.slice ad15 n15 c15]) o8 rfl rfl (ocB (ocS oc0)) (niB (niS ni0)) (o:=0) rfl
   have kp:=tu.keep o8
   refine E.st hF (cd (hF.at 0 rfl) (hF.at 1 rfl) (hr _ rfl)) rfl rfl fun a hF=>?_
   clear hr
   replace hh14:=hh14.keep kp
   replace o2:=tu.own o2 ne2_8
   replace o3:=tu.own o3 ne3_8
   replace o4:=tu.own o4 ne4_8
   replace o5:=tu.own o5 ne5_8
   replace bel:=tu.below bel ge8
   clear tu kp
   replace o8:=on
   clear on
   have hf18:=Rz.abs hh14
   refine ns ?_
   refine wp_seq ?_
   refine E.drawn 11 aF hF [30,31,32,33,34,35,36,37,38,39,40] [(fun _ v=>v= .agg #[.bool b1,.slice ad1 n1 c1]),(fun _ v=>v= .agg #[.bool b15,.slice ad15 n15 c15]),(fun _ v=>v= .agg #[.bool b2,.slice ad2 n2 c2]),(fun w v=>Rz w v ((sg ((b1 !=b2)) ((Int.natAbs (z1))/(Int.natAbs (z2))))*z2)),(fun w v=>Rz w v (-((sg ((b1 !=b2)) ((Int.natAbs (z1))/(Int.natAbs (z2))))*z2))),(fun w v=>Rz w v (z1+(-((sg ((b1 !=b2)) ((Int.natAbs (z1))/(Int.natAbs (z2))))*z2)))),(fun _ v=>v= .int .i64 (sz (z1+(-((sg ((b1 !=b2)) ((Int.natAbs (z1))/(Int.natAbs (z2))))*z2))))),(fun _ v=>v= .agg #[.bool b2,.slice ad2 n2 c2]),(fun _ v=>v= .int .i64 (sz (z2))),(fun _ v=>v= .int .i64 ((sz (z1+(-((sg ((b1 !=b2)) ((Int.natAbs (z1))/(Int.natAbs (z2))))*z2))))*(sz (z2)))),(fun _ v=>v= .bool true)] [] (by decide+kernel) (by decide+kernel) rfl rfl rfl ⟨(Mb.eq _),(Mb.eq _),(Mb.eq _),(fun _ _ _ h hb=>h.below hb),(fun _ _ _ h hb=>h.below hb),(fun _ _ _ h hb=>h.below hb),(Mb.eq _),(Mb.eq _),(Mb.eq _),(Mb.eq _),(Mb.eq _),trivial⟩ trivial ⟨?_,?_,?_,?_,?_,?_,?_,?_,?_,?_,?_,trivial⟩ ?_
   ·intro a' w' hF' hb hd
    exact dv0 (av (hF'.at 25 rfl) (bJ (vs:=[.bool b1,.slice ad1 n1 c1]) (o2.below hb) rfl rfl)) rfl rfl rfl
   ·intro a' w' hF' hb hd
    exact dv0 (av (hF'.at 0 rfl) (bJ (vs:=[.bool b15,.slice ad15 n15 c15]) (o8.below hb) rfl rfl)) rfl rfl rfl
   ·intro a' w' hF' hb hd
    exact dv0 (av (hF'.at 24 rfl) (bJ (vs:=[.bool b2,.slice ad2 n2 c2]) (o3.below hb) rfl rfl)) rfl rfl rfl
   ·intro a' w' hF' hb hd
    have e31:=tE hd 0 rfl
    have e32:=tE hd 1 rfl
    exact dc0 (rk ib (aC e31 e32)) (dB _ _ _ _ k j _ (hh14.below hb) (h2.below (ar bel hb)) (eU _ (Lim.le l1 (Nat.div_le_self _ _))) l2 (by omega) (by omega)) rfl rfl
   ·intro a' w' hF' hb hd
    obtain⟨v33_0,e33,h33_1⟩:=tH hd 0 rfl
    exact dc0 (rk pz (aI e33)) (iI _ _ _ h33_1) rfl rfl
   ·intro a' w' hF' hb hd
    have e30:=tE hd 0 rfl
    obtain⟨v34_0,e34,h34_1⟩:=tH hd 1 rfl
    exact dc0 (rk nP (aC e30 e34)) (f9 _ _ _ _ k (k+j) _ (h1.below (ar bel hb)) h34_1 l1 (jW (cG (eU _ (Lim.le l1 (Nat.div_le_self _ _))) l2)) (by omega) (by omega)) rfl rfl
   ·intro a' w' hF' hb hd
    obtain⟨v35_0,e35,h35_1⟩:=tH hd 0 rfl
    exact iv (rk pl (aI e35)) (gU _ _ _ h35_1) (fun _=>rfl) rfl rfl
   ·intro a' w' hF' hb hd
    exact dv0 (av (hF'.at 24 rfl) (bJ (vs:=[.bool b2,.slice ad2 n2 c2]) (o3.below hb) rfl rfl)) rfl rfl rfl
   ·intro a' w' hF' hb hd
    have e37:=tE hd 0 rfl
    exact iv (rk pl (aI e37)) (gU _ _ _ (h2.below (ar bel hb))) (fun _=>rfl) rfl rfl
   ·intro a' w' hF' hb hd
    have e36:=tE hd 0 rfl
    have e38:=tE hd 1 rfl
    exact dv0 (aq e36 e38 ab (dZ (kA (kG _) (kG _)).1 (kA (kG _) (kG _)).2)) rfl rfl rfl
   ·intro a' w' hF' hb hd
    have e39:=tE hd 0 rfl
    exact dv0 (aq e39 ao ab (aw (a6 (c:=true) (CU HT)) (by simp))) rfl rfl rfl
   intro a w19 hF bb hall hne
   replace hF:=aE hall hF 10 rfl rfl
   clear hall hne
   replace hf18:=hf18.below bb
   replace hh14:=hh14.below bb
   replace o2:=o2.below bb
   replace o3:=o3.below bb
   replace o4:=o4.below bb
   replace o5:=o5.below bb
   replace o8:=o8.below bb
   replace bel:=ar bel bb
   clear bb
   refine E.nil ?_
   refine wp_cond_true (hF.at 0 rfl) ?_
   refine E.drawn 3 aF hF [41,42,43] [(fun _ v=>v= .agg #[.bool b15,.slice ad15 n15 c15]),(fun w v=>Rz w v ((-1))),(fun w v=>Rz w v ((sg ((b1 !=b2)) ((Int.natAbs (z1))/(Int.natAbs (z2))))+((-1))))] [] (by decide+kernel) (by decide+kernel) rfl rfl rfl ⟨(Mb.eq _),(fun _ _ _ h hb=>h.below hb),(fun _ _ _ h hb=>h.below hb),trivial⟩ trivial ⟨?_,?_,?_,trivial⟩ ?_
   ·intro a' w' hF' hb hd
    exact dv0 (av (hF'.at 1 rfl) (bJ (vs:=[.bool b15,.slice ad15 n15 c15]) (o8.below hb) rfl rfl)) rfl rfl rfl
   ·intro a' w' hF' hb hd
    exact dc0 (rk wK (aI ao)) (p8 ((-1)) _ (by decide) (by decide)) rfl rfl
   ·intro a' w' hF' hb hd
    have e41:=tE hd 0 rfl
    obtain⟨v42_0,e42,h42_1⟩:=tH hd 1 rfl
    exact dc0 (rk nP (aC e41 e42)) (f9 _ _ _ _ k 2 _ (hh14.below hb) h42_1 (eU _ (Lim.le l1 (Nat.div_le_self _ _))) (qe (by decide)) (by omega) (by omega)) rfl rfl
   intro a w20 hF bb hall hne
   obtain⟨vv21,e43,hh22⟩:=sS hall 2 43 rfl rfl
   clear hall hne
   replace hf18:=hf18.below bb
   replace hh14:=hh14.below bb
   replace o2:=o2.below bb
   replace o3:=o3.below bb
   replace o4:=o4.below bb
   replace o5:=o5.below bb
   replace o8:=o8.below bb
   replace bel:=ar bel bb
   clear bb
   obtain⟨b23,ad23,n23,c23,rfl⟩:=Rz.form hh22
   replace hF:=hF.add e43
   clear e43
   obtain⟨w24,hr,tu,on⟩:=gu (vs:=[.bool b23,.slice ad23 n23 c23]) o8 rfl rfl (ocB (ocS oc0)) (niB (niS ni0)) (o:=0) rfl
   have kp:=tu.keep o8
   refine E.st hF (cd (hF.at 2 rfl) (hF.at 0 rfl) (hr _ rfl)) rfl rfl fun a hF=>?_
   clear hr
   replace hf18:=hf18.keep kp
   replace hh14:=hh14.keep kp
   replace hh22:=hh22.keep kp
   replace o2:=tu.own o2 ne2_8
   replace o3:=tu.own o3 ne3_8
   replace o4:=tu.own o4 ne4_8
   replace o5:=tu.own o5 ne5_8
   replace bel:=tu.below bel ge8
   clear tu kp
   replace o8:=on
   clear on
   have hf25:=Rz.abs hh22
   refine ns ?_
   refine E.drawn 7 aF hF [44,45,46,47,48,49,50] [(fun _ v=>v= .agg #[.bool b23,.slice ad23 n23 c23]),(fun _ v=>v= .agg #[.bool b1,.slice ad1 n1 c1]),(fun _ v=>v= .agg #[.bool b23,.slice ad23 n23 c23]),(fun _ v=>v= .agg #[.bool b2,.slice ad2 n2 c2]),(fun w v=>Rz w v (((sg ((b1 !=b2)) ((Int.natAbs (z1))/(Int.natAbs (z2))))+((-1)))*z2)),(fun w v=>Rz w v (-(((sg ((b1 !=b2)) ((Int.natAbs (z1))/(Int.natAbs (z2))))+((-1)))*z2))),(fun w v=>Rz w v (z1+(-(((sg ((b1 !=b2)) ((Int.natAbs (z1))/(Int.natAbs (z2))))+((-1)))*z2))))] [] (by decide+kernel) (by decide+kernel) rfl rfl rfl ⟨(Mb.eq _),(Mb.eq _),(Mb.eq _),(Mb.eq _),(fun _ _ _ h hb=>h.below hb),(fun _ _ _ h hb=>h.below hb),(fun _ _ _ h hb=>h.below hb),trivial⟩ trivial ⟨?_,?_,?_,?_,?_,?_,?_,trivial⟩ ?_
   ·intro a' w' hF' hb hd
    exact dv0 (av (hF'.at 2 rfl) (bJ (vs:=[.bool b23,.slice ad23 n23 c23]) (o8.below hb) rfl rfl)) rfl rfl rfl
   ·intro a' w' hF' hb hd
    exact dv0 (av (hF'.at 27 rfl) (bJ (vs:=[.bool b1,.slice ad1 n1 c1]) (o2.below hb) rfl rfl)) rfl rfl rfl
   ·intro a' w' hF' hb hd
    exact dv0 (av (hF'.at 2 rfl) (bJ (vs:=[.bool b23,.slice ad23 n23 c23]) (o8.below hb) rfl rfl)) rfl rfl rfl
   ·intro a' w' hF' hb hd
    exact dv0 (av (hF'.at 26 rfl) (bJ (vs:=[.bool b2,.slice ad2 n2 c2]) (o3.below hb) rfl rfl)) rfl rfl rfl
   ·intro a' w' hF' hb hd
    have e46:=tE hd 0 rfl
    have e47:=tE hd 1 rfl
    exact dc0 (rk ib (aC e46 e47)) (dB _ _ _ _ ((max k 2)+1) j _ (hh22.below hb) (h2.below (ar bel hb)) (lU (eU _ (Lim.le l1 (Nat.div_le_self _ _))) (qe (by decide)) ((max k 2)+1) (by omega) (by omega)) l2 (by omega) (by omega)) rfl rfl
   ·intro a' w' hF' hb hd
    obtain⟨v48_0,e48,h48_1⟩:=tH hd 0 rfl
    exact dc0 (rk pz (aI e48)) (iI _ _ _ h48_1) rfl rfl
   ·intro a' w' hF' hb hd
    have e45:=tE hd 0 rfl
    obtain⟨v49_0,e49,h49_1⟩:=tH hd 1 rfl
    exact dc0 (rk nP (aC e45 e49)) (f9 _ _ _ _ k (((max k 2)+1)+j) _ (h1.below (ar bel hb)) h49_1 l1 (jW (cG (lU (eU _ (Lim.le l1 (Nat.div_le_self _ _))) (qe (by decide)) ((max k 2)+1) (by omega) (by omega)) l2)) (by omega) (by omega)) rfl rfl
   intro a w26 hF bb hall hne
   replace hF:=aE hall hF 0 rfl rfl
   obtain⟨vv27,e50,hh28⟩:=sS hall 6 50 rfl rfl
   clear hall hne
   replace hh22:=hh22.below bb
   replace hf25:=hf25.below bb
   replace o4:=o4.below bb
   replace o5:=o5.below bb
   replace bel:=ar bel bb
   clear bb
   obtain⟨b29,ad29,n29,c29,rfl⟩:=Rz.form hh28
   replace hF:=hF.add e50
   clear e50
   obtain⟨w30,hr,tu,on⟩:=gu (vs:=[.bool b23,.slice ad23 n23 c23]) o4 rfl rfl (ocB (ocS oc0)) (niB (niS ni0)) (o:=0) rfl
   have kp:=tu.keep o4
   refine E.st hF (cd (hF.at 27 rfl) (hF.at 1 rfl) (hr _ rfl)) rfl rfl fun a hF=>?_
   clear hr
   replace hh28:=hh28.keep kp
   replace hh22:=hh22.keep kp
   replace hf25:=hf25.keep kp
   replace o5:=tu.own o5 (Ne.symm ne4_5)
   replace bel:=tu.below bel ge4
   clear tu kp
   replace o4:=on
   clear on
   obtain⟨w31,hr,tu,on⟩:=gu (vs:=[.bool b29,.slice ad29 n29 c29]) o5 rfl rfl (ocB (ocS oc0)) (niB (niS ni0)) (o:=0) rfl
   have kp:=tu.keep o5
   refine E.st hF (cd (hF.at 26 rfl) (hF.at 0 rfl) (hr _ rfl)) rfl rfl fun a hF=>?_
   clear hr
   replace hf25:=hf25.keep kp
   replace hh22:=hh22.keep kp
   replace hh28:=hh28.keep kp
   replace o4:=tu.own o4 ne4_5
   replace bel:=tu.below bel ge5
   clear tu kp
   replace o5:=on
   clear on
   have hf32:=Rz.abs hh28
   refine nr ?_
   refine bodyPost_ret (mW Tryz.results170 (hF.at 27 rfl) (bJ (vs:=[.bool b23,.slice ad23 n23 c23]) o4 rfl rfl) (hF.at 26 rfl) (bJ (vs:=[.bool b29,.slice ad29 n29 c29]) o5 rfl rfl)) hF.dfr ?_
   exact⟨_,_,rfl,hh22.cast HE.out.1,hh28.cast HE.out.2,bel⟩
  ·have HE:=Lib.hid (DY hQ e2 HT)
   clear hQ hb1 hb2 e2
   have bel:Below w.heap.size w w:=Below.refl _ _
   refine go2 (nt:=51) Tryz.func170 rfl rfl rfl fun a hF=>?_
   refine wq ?_
   obtain⟨g2,w1,ge2,hr,bb,o2⟩:=dM (P:=Tryz.prog) (w:=w) (cs:=[.bool b1,.slice ad1 n1 c1]) (v:= .agg #[.bool b1,.slice ad1 n1 c1]) 38 rfl (niB (niS ni0))
   replace ge2:w.heap.size≤g2:=by rw[←ge2];exact bel.size
   refine oV hF (eJ (hF.at 0 rfl) hr) rfl fun a hF=>?_
   clear hr
   replace bel:=ar bel bb
   clear bb
   obtain⟨g3,w2,ge3,hr,bb,o3⟩:=dM (P:=Tryz.prog) (w:=w1) (cs:=[.bool b2,.slice ad2 n2 c2]) (v:= .agg #[.bool b2,.slice ad2 n2 c2]) 38 rfl (niB (niS ni0))
   have ne2_3:g2≠g3:=by rw[←ge3];exact o2.ne_new
   replace ge3:w.heap.size≤g3:=by rw[←ge3];exact bel.size
   refine oV hF (eJ (hF.at 2 rfl) hr) rfl fun a hF=>?_
   clear hr
   replace o2:=o2.below bb
   replace bel:=ar bel bb
   clear bb
   obtain⟨g4,w3,ge4,hr,bb,o4⟩:=bP (P:=Tryz.prog) (w:=w2) (cs:=[.bool false,.slice none 0 0]) 38 eh rfl (niB (niS ni0))
   have ne2_4:g2≠g4:=by rw[←ge4];exact o2.ne_new
   have ne3_4:g3≠g4:=by rw[←ge4];exact o3.ne_new
   replace ge4:w.heap.size≤g4:=by rw[←ge4];exact bel.size
   refine oV hF (cf hr) rfl fun a hF=>?_
   clear hr
   replace o2:=o2.below bb
   replace o3:=o3.below bb
   replace bel:=ar bel bb
   clear bb
   obtain⟨g5,w4,ge5,hr,bb,o5⟩:=bP (P:=Tryz.prog) (w:=w3) (cs:=[.bool false,.slice none 0 0]) 38 eh rfl (niB (niS ni0))
   have ne2_5:g2≠g5:=by rw[←ge5];exact o2.ne_new
   have ne3_5:g3≠g5:=by rw[←ge5];exact o3.ne_new
   have ne4_5:g4≠g5:=by rw[←ge5];exact o4.ne_new
   replace ge5:w.heap.size≤g5:=by rw[←ge5];exact bel.size
   refine oV hF (cf hr) rfl fun a hF=>?_
   clear hr
   replace o2:=o2.below bb
   replace o3:=o3.below bb
   replace o4:=o4.below bb
   replace bel:=ar bel bb
   clear bb
   refine ns ?_
   refine wq ?_
   refine oV hF (aA (hF.at 2 rfl) (cy (p:=1) rfl)) rfl fun a hF=>?_
   refine oV hF (av (hF.at 0 rfl) (cp (v:= .slice ad2 n2 c2) o3 rfl)) rfl fun a hF=>?_
   refine oV hF (cr (aI (hF.at 0 rfl)) gD) rfl fun a hF=>?_
   refine oV hF (aq (hF.at 0 rfl) ao ab (aw (aX (c:=false) (jk (by omega))) (by simp))) rfl fun a hF=>?_
   refine E.nil ?_
   refine wp_cond_false (hF.at 0 rfl) ?_
   refine wp_skip ?_
   refine E.norm ?_
   refine wq ?_
   refine oV hF (aA (hF.at 7 rfl) (cy (p:=1) rfl)) rfl fun a hF=>?_
   refine oV hF (av (hF.at 0 rfl) (cp (v:= .slice ad1 n1 c1) o2 rfl)) rfl fun a hF=>?_
   refine oV hF (aA (hF.at 8 rfl) (cy (p:=1) rfl)) rfl fun a hF=>?_
   refine oV hF (av (hF.at 0 rfl) (cp (v:= .slice ad2 n2 c2) o3 rfl)) rfl fun a hF=>?_
   refine E.call hF (rk CA (aC (hF.at 2 rfl) (hF.at 0 rfl))) (nY _ _ (Int.natAbs (z1)) (Int.natAbs (z2)) _ (ha1.below bel) (ha2.below bel) (Lim.dh l1 _ (by omega)) (Lim.dh l2 _ (by omega))) rfl rfl rfl rfl ?_
   rintro e w5 ⟨vv6,vv7,rfl,hh8,hh9,bb⟩
   refine⟨_,rfl,?_⟩
   intro a hF
   replace o2:=o2.below bb
   replace o3:=o3.below bb
   replace o4:=o4.below bb
   replace o5:=o5.below bb
   replace bel:=ar bel bb
   clear bb
   obtain⟨ad10,n10,c10,rfl⟩:=Dg.form hh8
   obtain⟨ad11,n11,c11,rfl⟩:=Dg.form hh9
   refine oM hF 0 rfl rfl fun a hF=>?_
   refine oV hF (aW (v:= .slice ad10 n10 c10) (hF.at 0 rfl) rfl) rfl fun a hF=>?_
   refine oV hF (aW (v:= .slice ad11 n11 c11) (hF.at 1 rfl) rfl) rfl fun a hF=>?_
   refine oA hF 1 rfl rfl fun a hF=>?_
   refine oA hF 1 rfl rfl fun a hF=>?_
   refine nq ?_
   refine oV hF (aA (hF.at 17 rfl) (fh (p:=0) rfl)) rfl fun a hF=>?_
   refine oV hF (av (hF.at 0 rfl) (dP (v:= .bool b1) o2 rfl)) rfl fun a hF=>?_
   refine oV hF (aA (hF.at 18 rfl) (fh (p:=0) rfl)) rfl fun a hF=>?_
   refine oV hF (av (hF.at 0 rfl) (dP (v:= .bool b2) o3 rfl)) rfl fun a hF=>?_
   refine oV hF (aq (hF.at 2 rfl) (hF.at 0 rfl) lr (mB (d:=(b1 !=b2)) rfl)) rfl fun a hF=>?_
   refine oM hF 6 rfl rfl fun a hF=>?_
   refine E.call hF (rk wM (aC (hF.at 1 rfl) (hF.at 0 rfl))) (dD _ _ ((Int.natAbs (z1))/(Int.natAbs (z2))) _ hh8) rfl rfl rfl rfl ?_
   rintro e w12 ⟨vv13,rfl,hh14,bb⟩
   refine⟨_,rfl,?_⟩
   intro a hF
   replace o2:=o2.below bb
   replace o3:=o3.below bb
   replace o4:=o4.below bb
   replace o5:=o5.below bb
   replace bel:=ar bel bb
   clear bb
   obtain⟨b15,ad15,n15,c15,rfl⟩:=Rz.form hh14
   obtain⟨g8,w16,ge8,hr,bb,o8⟩:=bP (P:=Tryz.prog) (w:=w12) (cs:=[.bool false,.slice none 0 0]) 38 eh rfl (niB (niS ni0))
   have ne2_8:g2≠g8:=by rw[←ge8];exact o2.ne_new
   have ne3_8:g3≠g8:=by rw[←ge8];exact o3.ne_new
   have ne4_8:g4≠g8:=by rw[←ge8];exact o4.ne_new
   have ne5_8:g5≠g8:=by rw[←ge8];exact o5.ne_new
   replace ge8:w.heap.size≤g8:=by rw[←ge8];exact bel.size
   refine oV hF (cf hr) rfl fun a hF=>?_
   clear hr
   replace hh14:=hh14.below bb
   replace o2:=o2.below bb
   replace o3:=o3.below bb
   replace o4:=o4.below bb
   replace o5:=o5.below bb
   replace bel:=ar bel bb
   clear bb
   obtain⟨w17,hr,tu,on⟩:=gu (vs:=[.bool b15,.slice ad15 n15 c15]) o8 rfl rfl (ocB (ocS oc0)) (niB (niS ni0)) (o:=0) rfl
   have kp:=tu.keep o8
   refine E.st hF (cd (hF.at 0 rfl) (hF.at 1 rfl) (hr _ rfl)) rfl rfl fun a hF=>?_
   clear hr
   replace hh14:=hh14.keep kp
   replace o2:=tu.own o2 ne2_8
   replace o3:=tu.own o3 ne3_8
   replace o4:=tu.own o4 ne4_8
   replace o5:=tu.own o5 ne5_8
   replace bel:=tu.below bel ge8
   clear tu kp
   replace o8:=on
   clear on
   have hf18:=Rz.abs hh14
   refine ns ?_
   refine wp_seq ?_
   refine E.drawn 11 aF hF [30,31,32,33,34,35,36,37,38,39,40] [(fun _ v=>v= .agg #[.bool b1,.slice ad1 n1 c1]),(fun _ v=>v= .agg #[.bool b15,.slice ad15 n15 c15]),(fun _ v=>v= .agg #[.bool b2,.slice ad2 n2 c2]),(fun w v=>Rz w v ((sg ((b1 !=b2)) ((Int.natAbs (z1))/(Int.natAbs (z2))))*z2)),(fun w v=>Rz w v (-((sg ((b1 !=b2)) ((Int.natAbs (z1))/(Int.natAbs (z2))))*z2))),(fun w v=>Rz w v (z1+(-((sg ((b1 !=b2)) ((Int.natAbs (z1))/(Int.natAbs (z2))))*z2)))),(fun _ v=>v= .int .i64 (sz (z1+(-((sg ((b1 !=b2)) ((Int.natAbs (z1))/(Int.natAbs (z2))))*z2))))),(fun _ v=>v= .agg #[.bool b2,.slice ad2 n2 c2]),(fun _ v=>v= .int .i64 (sz (z2))),(fun _ v=>v= .int .i64 ((sz (z1+(-((sg ((b1 !=b2)) ((Int.natAbs (z1))/(Int.natAbs (z2))))*z2))))*(sz (z2)))),(fun _ v=>v= .bool false)] [] (by decide+kernel) (by decide+kernel) rfl rfl rfl ⟨(Mb.eq _),(Mb.eq _),(Mb.eq _),(fun _ _ _ h hb=>h.below hb),(fun _ _ _ h hb=>h.below hb),(fun _ _ _ h hb=>h.below hb),(Mb.eq _),(Mb.eq _),(Mb.eq _),(Mb.eq _),(Mb.eq _),trivial⟩ trivial ⟨?_,?_,?_,?_,?_,?_,?_,?_,?_,?_,?_,trivial⟩ ?_
   ·intro a' w' hF' hb hd
    exact dv0 (av (hF'.at 25 rfl) (bJ (vs:=[.bool b1,.slice ad1 n1 c1]) (o2.below hb) rfl rfl)) rfl rfl rfl
   ·intro a' w' hF' hb hd
    exact dv0 (av (hF'.at 0 rfl) (bJ (vs:=[.bool b15,.slice ad15 n15 c15]) (o8.below hb) rfl rfl)) rfl rfl rfl
   ·intro a' w' hF' hb hd
    exact dv0 (av (hF'.at 24 rfl) (bJ (vs:=[.bool b2,.slice ad2 n2 c2]) (o3.below hb) rfl rfl)) rfl rfl rfl
   ·intro a' w' hF' hb hd
    have e31:=tE hd 0 rfl
    have e32:=tE hd 1 rfl
    exact dc0 (rk ib (aC e31 e32)) (dB _ _ _ _ k j _ (hh14.below hb) (h2.below (ar bel hb)) (eU _ (Lim.le l1 (Nat.div_le_self _ _))) l2 (by omega) (by omega)) rfl rfl
   ·intro a' w' hF' hb hd
    obtain⟨v33_0,e33,h33_1⟩:=tH hd 0 rfl
    exact dc0 (rk pz (aI e33)) (iI _ _ _ h33_1) rfl rfl
   ·intro a' w' hF' hb hd
    have e30:=tE hd 0 rfl
    obtain⟨v34_0,e34,h34_1⟩:=tH hd 1 rfl
    exact dc0 (rk nP (aC e30 e34)) (f9 _ _ _ _ k (k+j) _ (h1.below (ar bel hb)) h34_1 l1 (jW (cG (eU _ (Lim.le l1 (Nat.div_le_self _ _))) l2)) (by omega) (by omega)) rfl rfl
   ·intro a' w' hF' hb hd
    obtain⟨v35_0,e35,h35_1⟩:=tH hd 0 rfl
    exact iv (rk pl (aI e35)) (gU _ _ _ h35_1) (fun _=>rfl) rfl rfl
   ·intro a' w' hF' hb hd
    exact dv0 (av (hF'.at 24 rfl) (bJ (vs:=[.bool b2,.slice ad2 n2 c2]) (o3.below hb) rfl rfl)) rfl rfl rfl
   ·intro a' w' hF' hb hd
    have e37:=tE hd 0 rfl
    exact iv (rk pl (aI e37)) (gU _ _ _ (h2.below (ar bel hb))) (fun _=>rfl) rfl rfl
   ·intro a' w' hF' hb hd
    have e36:=tE hd 0 rfl
    have e38:=tE hd 1 rfl
    exact dv0 (aq e36 e38 ab (dZ (kA (kG _) (kG _)).1 (kA (kG _) (kG _)).2)) rfl rfl rfl
   ·intro a' w' hF' hb hd
    have e39:=tE hd 0 rfl
    exact dv0 (aq e39 ao ab (aw (a6 (c:=false) (CB HT)) (by simp))) rfl rfl rfl
   intro a w19 hF bb hall hne
   replace hF:=aE hall hF 10 rfl rfl
   clear hall hne
   replace hf18:=hf18.below bb
   replace hh14:=hh14.below bb
   replace o2:=o2.below bb
   replace o3:=o3.below bb
   replace o4:=o4.below bb
   replace o5:=o5.below bb
   replace o8:=o8.below bb
   replace bel:=ar bel bb
   clear bb
   refine E.nil ?_
   refine wp_cond_false (hF.at 0 rfl) ?_
   refine wp_skip ?_
   refine E.norm ?_
   refine wp_seq ?_
   refine E.drawn 7 aF hF [44,45,46,47,48,49,50] [(fun _ v=>v= .agg #[.bool b15,.slice ad15 n15 c15]),(fun _ v=>v= .agg #[.bool b1,.slice ad1 n1 c1]),(fun _ v=>v= .agg #[.bool b15,.slice ad15 n15 c15]),(fun _ v=>v= .agg #[.bool b2,.slice ad2 n2 c2]),(fun w v=>Rz w v ((sg ((b1 !=b2)) ((Int.natAbs (z1))/(Int.natAbs (z2))))*z2)),(fun w v=>Rz w v (-((sg ((b1 !=b2)) ((Int.natAbs (z1))/(Int.natAbs (z2))))*z2))),(fun w v=>Rz w v (z1+(-((sg ((b1 !=b2)) ((Int.natAbs (z1))/(Int.natAbs (z2))))*z2))))] [] (by decide+kernel) (by decide+kernel) rfl rfl rfl ⟨(Mb.eq _),(Mb.eq _),(Mb.eq _),(Mb.eq _),(fun _ _ _ h hb=>h.below hb),(fun _ _ _ h hb=>h.below hb),(fun _ _ _ h hb=>h.below hb),trivial⟩ trivial ⟨?_,?_,?_,?_,?_,?_,?_,trivial⟩ ?_
   ·intro a' w' hF' hb hd
    exact dv0 (av (hF'.at 1 rfl) (bJ (vs:=[.bool b15,.slice ad15 n15 c15]) (o8.below hb) rfl rfl)) rfl rfl rfl
   ·intro a' w' hF' hb hd
    exact dv0 (av (hF'.at 26 rfl) (bJ (vs:=[.bool b1,.slice ad1 n1 c1]) (o2.below hb) rfl rfl)) rfl rfl rfl
   ·intro a' w' hF' hb hd
    exact dv0 (av (hF'.at 1 rfl) (bJ (vs:=[.bool b15,.slice ad15 n15 c15]) (o8.below hb) rfl rfl)) rfl rfl rfl
   ·intro a' w' hF' hb hd
    exact dv0 (av (hF'.at 25 rfl) (bJ (vs:=[.bool b2,.slice ad2 n2 c2]) (o3.below hb) rfl rfl)) rfl rfl rfl
   ·intro a' w' hF' hb hd
    have e46:=tE hd 0 rfl
    have e47:=tE hd 1 rfl
    exact dc0 (rk ib (aC e46 e47)) (dB _ _ _ _ k j _ (hh14.below hb) (h2.below (ar bel hb)) (eU _ (Lim.le l1 (Nat.div_le_self _ _))) l2 (by omega) (by omega)) rfl rfl
   ·intro a' w' hF' hb hd
    obtain⟨v48_0,e48,h48_1⟩:=tH hd 0 rfl
    exact dc0 (rk pz (aI e48)) (iI _ _ _ h48_1) rfl rfl
   ·intro a' w' hF' hb hd
    have e45:=tE hd 0 rfl
    obtain⟨v49_0,e49,h49_1⟩:=tH hd 1 rfl
    exact dc0 (rk nP (aC e45 e49)) (f9 _ _ _ _ k (k+j) _ (h1.below (ar bel hb)) h49_1 l1 (jW (cG (eU _ (Lim.le l1 (Nat.div_le_self _ _))) l2)) (by omega) (by omega)) rfl rfl
   intro a w20 hF bb hall hne
   replace hF:=aE hall hF 0 rfl rfl
   obtain⟨vv21,e50,hh22⟩:=sS hall 6 50 rfl rfl
   clear hall hne
   replace hh14:=hh14.below bb
   replace hf18:=hf18.below bb
   replace o4:=o4.below bb
   replace o5:=o5.below bb
   replace bel:=ar bel bb
   clear bb
   obtain⟨b23,ad23,n23,c23,rfl⟩:=Rz.form hh22
   replace hF:=hF.add e50
   clear e50
   obtain⟨w24,hr,tu,on⟩:=gu (vs:=[.bool b15,.slice ad15 n15 c15]) o4 rfl rfl (ocB (ocS oc0)) (niB (niS ni0)) (o:=0) rfl
   have kp:=tu.keep o4
   refine E.st hF (cd (hF.at 26 rfl) (hF.at 1 rfl) (hr _ rfl)) rfl rfl fun a hF=>?_
   clear hr
   replace hh22:=hh22.keep kp
   replace hh14:=hh14.keep kp
   replace hf18:=hf18.keep kp
   replace o5:=tu.own o5 (Ne.symm ne4_5)
   replace bel:=tu.below bel ge4
   clear tu kp
   replace o4:=on
   clear on
   obtain⟨w25,hr,tu,on⟩:=gu (vs:=[.bool b23,.slice ad23 n23 c23]) o5 rfl rfl (ocB (ocS oc0)) (niB (niS ni0)) (o:=0) rfl
   have kp:=tu.keep o5
   refine E.st hF (cd (hF.at 25 rfl) (hF.at 0 rfl) (hr _ rfl)) rfl rfl fun a hF=>?_
   clear hr
   replace hf18:=hf18.keep kp
   replace hh14:=hh14.keep kp
   replace hh22:=hh22.keep kp
   replace o4:=tu.own o4 ne4_5
   replace bel:=tu.below bel ge5
   clear tu kp
   replace o5:=on
   clear on
   have hf26:=Rz.abs hh22
   refine nr ?_
   refine bodyPost_ret (mW Tryz.results170 (hF.at 26 rfl) (bJ (vs:=[.bool b15,.slice ad15 n15 c15]) o4 rfl rfl) (hF.at 25 rfl) (bJ (vs:=[.bool b23,.slice ad23 n23 c23]) o5 rfl rfl)) hF.dfr ?_
   exact⟨_,_,rfl,hh14.cast HE.out.1,hh22.cast HE.out.2,bel⟩
end Go.Proofs.YtnljadejcfgmaaaGreatDoor
