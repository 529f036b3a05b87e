import Derived.Test.YtdbiegfmgabicaaGreatDoorKA26
import Derived.Test.YtdbiegfmgabicaaGreatDoorKA31
namespace Go.Proofs.YtdbiegfmgabicaaGreatDoor
open Go.RowKit
set_option maxRecDepth 100000
set_option linter.unusedVariables false
set_option maxHeartbeats 8000000
theorem jJ {v1 v2:Value} {p1 p2:Rat} {k1 i1 k2 i2:Nat} {w:World} (x1:Rh p1 k1 i1 w v1) (x2:Rh p2 k2 i2 w v2) (a1:k1≤10000:=by omega) (b1:1≤k1:=by omega) (a2:k2≤10000:=by omega) (b2:1≤k2:=by omega):Calls Tryz.prog 126 #[v1,v2] w (Ret (kh ((p1)+(p2)) ((k1+k2+1)) ((i1+i2+1))) w):=aJ (oF _ _ (p1) (p2) k1 k2 _ x1.1 x2.1 (by omega) (by omega) (by omega) (by omega)) (bL x1.2 x2.2)
theorem eB {v1 v2:Value} {p1 p2:Rat} {k1 i1 k2 i2:Nat} {w:World} (x1:Rh p1 k1 i1 w v1) (x2:Rh p2 k2 i2 w v2) (a1:k1≤10000:=by omega) (b1:1≤k1:=by omega) (a2:k2≤10000:=by omega) (b2:1≤k2:=by omega):Calls Tryz.prog 77 #[v1,v2] w (Ret (kh ((p1)-(p2)) ((k1+k2+1)) ((i1+i2+1))) w):=aJ (lB _ _ (p1) (p2) k1 k2 _ x1.1 x2.1 (by omega) (by omega) (by omega) (by omega)) (cA x1.2 x2.2)
theorem cD {v1 v2:Value} {p1 p2:Rat} {k1 i1 k2 i2:Nat} {w:World} (x1:Rh p1 k1 i1 w v1) (x2:Rh p2 k2 i2 w v2) (a1:k1≤10000:=by omega) (b1:1≤k1:=by omega) (a2:k2≤10000:=by omega) (b2:1≤k2:=by omega):Calls Tryz.prog 75 #[v1,v2] w (Ret (kh ((p1)*(p2)) ((k1+k2)) ((i1+i2))) w):=aJ (t7 _ _ (p1) (p2) k1 k2 _ x1.1 x2.1 (by omega) (by omega) (by omega) (by omega)) (bf x1.2 x2.2)
theorem pB {v1 v2:Value} {p1 p2:Rat} {k1 i1 k2 i2:Nat} {w:World} (x1:Rh p1 k1 i1 w v1) (x2:Rh p2 k2 i2 w v2) (a1:k1≤10000:=by omega) (b1:1≤k1:=by omega) (a2:k2≤10000:=by omega) (b2:1≤k2:=by omega):Calls Tryz.prog 124 #[v1,v2] w (Ret (kh ((p1)/(p2)) ((k1+k2)) ((i1+i2))) w):=aJ (tY _ _ (p1) (p2) k1 k2 _ x1.1 x2.1 (by omega) (by omega) (by omega) (by omega)) (dF x1.2 x2.2)
theorem GH {v1 v2:Value} {p1 p2:Rat} {k1 i1 k2 i2:Nat} {w:World} (x1:Rh p1 k1 i1 w v1) (x2:Rh p2 k2 i2 w v2) (a1:k1≤4000:=by omega) (b1:1≤k1:=by omega) (c1:i1≤2000:=by omega) (a2:k2≤100:=by omega) (b2:1≤k2:=by omega) (c2:i2≤100:=by omega):Calls Tryz.prog 76 #[v1,v2] w (Ret (kh (rmod (p1) (p2)) ((k1+k2+i1+i2+3)) ((i1+i1+i2+i2+3))) w):=aJ (oZ _ _ (p1) (p2) k1 k2 i1 i2 _ x1.1 x2.1 x1.2 x2.2 (by omega) (by omega) (by omega) (by omega) (by omega) (by omega)) (k5 x1.2 x2.2)
theorem sd {v1 v2:Value} {p1:Rat} {k1 i1 k2 i2:Nat} {w:World} (x1:Rh p1 k1 i1 w v1) (x2:Rh ((360:Int):Rat) k2 i2 w v2) (a1:k1≤4000:=by omega) (b1:1≤k1:=by omega) (c1:i1≤2000:=by omega) (a2:k2≤100:=by omega) (b2:1≤k2:=by omega) (c2:i2≤100:=by omega):Calls Tryz.prog 76 #[v1,v2] w (Ret (kh (rmod p1 ((360:Int):Rat)) (k1+k2+i1+i2+3) (i1+4)) w):=aJ (oZ _ _ _ _ k1 k2 i1 i2 _ x1.1 x2.1 x1.2 x2.2 (by omega) (by omega) (by omega) (by omega) (by omega) (by omega)) (fG x1.2)
theorem pY (w:World):
 Calls Tryz.prog 125 #[] w (bW w pyr 7):=by
 have st:=St.start w
 refine go0 (nt:=2) Tryz.func125 rfl rfl fun a hF=>?_
 refine wq ?_
 refine S.alloc st hF ag rfl rfl fun g0 w1 a st hF=>?_
 refine nq ?_
 refine S.ck st hF (rgc k71 (aI ar ar)) (aJ (bD (394479457) (1080000) _ (by decide) (by decide) (by decide) (by decide)) (ah.up (aK (ao (by decide) (by decide)) (ao (by decide) (by decide))) 2 (by decide))) Rh.cl rfl fun vv3 w2 a st hF=>?_
 obtain⟨r5,rfl⟩:=Rr.fo (st.f 0 rfl).1
 refine so st hF 0 1 0 ag rfl rfl rfl rfl fun w6 a st hF=>?_
 refine nr ?_
 refine rs Tryz.results125 st hF 1 0 ag rfl rfl rfl ?_
 have bel:=st.bel
 exact⟨_,rfl,Rr.cast (Rr.up (st.f 0 rfl).1 _ (by omega)) (by decide+kernel),bel⟩
theorem xl (w:World):
 Calls Tryz.prog 136 #[] w (bW w pmo 7):=by
 have st:=St.start w
 refine go0 (nt:=4) Tryz.func136 rfl rfl fun a hF=>?_
 refine wq ?_
 refine S.alloc st hF ag rfl rfl fun g0 w1 a st hF=>?_
 refine nq ?_
 refine S.ck st hF (rgc k71 (aI ar ar)) (aJ (bm (27) _ (by decide) (by decide)) (bP (by decide) (by decide))) Rh.cl rfl fun vv3 w2 a st hF=>?_
 obtain⟨r5,rfl⟩:=Rr.fo (st.f 0 rfl).1
 refine S.ck st hF (rgc k71 (aI ar ar)) (aJ (bD (4644439) (14438334) _ (by decide) (by decide) (by decide) (by decide)) (ah.up (aK (ao (by decide) (by decide)) (ao (by decide) (by decide))) 2 (by decide))) Rh.cl rfl fun vv7 w6 a st hF=>?_
 obtain⟨r9,rfl⟩:=Rr.fo (st.f 0 rfl).1
 refine S.ck st hF (rgc lV (aI hF.p hF.o)) (jJ (st.f 1 rfl) (st.f 0 rfl)) Rh.cl rfl fun vv11 w10 a st hF=>?_
 obtain⟨r13,rfl⟩:=Rr.fo (st.f 0 rfl).1
 refine so st hF 0 3 0 ag rfl rfl rfl rfl fun w14 a st hF=>?_
 refine nr ?_
 refine rs Tryz.results136 st hF 3 0 ag rfl rfl rfl ?_
 have bel:=st.bel
 exact⟨_,rfl,Rr.cast (Rr.up (st.f 0 rfl).1 _ (by omega)) (by decide+kernel),bel⟩
theorem oR (w:World):
 Calls Tryz.prog 138 #[] w (bW w pay 7):=by
 have st:=St.start w
 refine go0 (nt:=2) Tryz.func138 rfl rfl fun a hF=>?_
 refine wq ?_
 refine S.alloc st hF ag rfl rfl fun g0 w1 a st hF=>?_
 refine nq ?_
 refine S.ck st hF (rgc k71 (aI ar ar)) (aJ (bD (1577917828000) (4319999613) _ (by decide) (by decide) (by decide) (by decide)) (ah.up (aK (ao (by decide) (by decide)) (ao (by decide) (by decide))) 2 (by decide))) Rh.cl rfl fun vv3 w2 a st hF=>?_
 obtain⟨r5,rfl⟩:=Rr.fo (st.f 0 rfl).1
 refine so st hF 0 1 0 ag rfl rfl rfl rfl fun w6 a st hF=>?_
 refine nr ?_
 refine rs Tryz.results138 st hF 1 0 ag rfl rfl rfl ?_
 have bel:=st.bel
 exact⟨_,rfl,Rr.cast (Rr.up (st.f 0 rfl).1 _ (by omega)) (by decide+kernel),bel⟩
theorem nL (w:World):
 Calls Tryz.prog 137 #[] w (bW w pam 7):=by
 have st:=St.start w
 refine go0 (nt:=2) Tryz.func137 rfl rfl fun a hF=>?_
 refine wq ?_
 refine S.alloc st hF ag rfl rfl fun g0 w1 a st hF=>?_
 refine nq ?_
 refine S.ck st hF (rgc k71 (aI ar ar)) (aJ (bD (1577917828) (57265137) _ (by decide) (by decide) (by decide) (by decide)) (ah.up (aK (ao (by decide) (by decide)) (ao (by decide) (by decide))) 2 (by decide))) Rh.cl rfl fun vv3 w2 a st hF=>?_
 obtain⟨r5,rfl⟩:=Rr.fo (st.f 0 rfl).1
 refine so st hF 0 1 0 ag rfl rfl rfl rfl fun w6 a st hF=>?_
 refine nr ?_
 refine rs Tryz.results137 st hF 1 0 ag rfl rfl rfl ?_
 have bel:=st.bel
 exact⟨_,rfl,Rr.cast (Rr.up (st.f 0 rfl).1 _ (by omega)) (by decide+kernel),bel⟩
theorem rP (w:World):
 Calls Tryz.prog 221 #[] w (bW w cre 12):=by
 have st:=St.start w
 refine go0 (nt:=6) Tryz.func221 rfl rfl fun a hF=>?_
 refine wq ?_
 refine S.alloc st hF ag rfl rfl fun g0 w1 a st hF=>?_
 refine nq ?_
 refine S.ck st hF (rgc k71 (aI ar ar)) (aJ (bm ((-1132959)) _ (by decide) (by decide)) (bP (by decide) (by decide))) Rh.cl rfl fun vv3 w2 a st hF=>?_
 obtain⟨r5,rfl⟩:=Rr.fo (st.f 0 rfl).1
 refine S.ck st hF (rgc k71 (aI ar ar)) (aJ (bm (1955880000) _ (by decide) (by decide)) (bP (by decide) (by decide))) Rh.cl rfl fun vv7 w6 a st hF=>?_
 obtain⟨r9,rfl⟩:=Rr.fo (st.f 0 rfl).1
 refine S.ck st hF (rgc vT ir) (aJ (pY _) mj) Rh.cl rfl fun vv11 w10 a st hF=>?_
 obtain⟨r13,rfl⟩:=Rr.fo (st.f 0 rfl).1
 refine S.ck st hF (rgc k75 (aI hF.p hF.o)) (cD (st.f 1 rfl) (st.f 0 rfl)) Rh.cl rfl fun vv15 w14 a st hF=>?_
 obtain⟨r17,rfl⟩:=Rr.fo (st.f 0 rfl).1
 refine S.ck st hF (rgc k77 (aI (hF.at 3 rfl) hF.o)) (eB (st.f 3 rfl) (st.f 0 rfl)) Rh.cl rfl fun vv19 w18 a st hF=>?_
 obtain⟨r21,rfl⟩:=Rr.fo (st.f 0 rfl).1
 refine so st hF 0 5 0 ag rfl rfl rfl rfl fun w22 a st hF=>?_
 refine nr ?_
 refine rs Tryz.results221 st hF 5 0 ag rfl rfl rfl ?_
 have bel:=st.bel
 exact⟨_,rfl,Rr.cast (Rr.up (st.f 0 rfl).1 _ (by omega)) (by decide+kernel),bel⟩
theorem DL (v1 v2:Value) (q1 q2:Rat) (k j i l:Nat) (w:World) (h1:Rr w v1 q1 k) (h2:Rr w v2 q2 j) (li1:ah q1 i) (li2:ah q2 l) (hp:1≤k) (hp2:1≤j) (hk:k≤1000) (hj:j≤100) (hi:i≤100) (hl:l≤100):
 Calls Tryz.prog 186 #[v1,v2] w (bW w (mof q1 q2) (k+j+i+l+30)):=by
 obtain⟨b1,ad1,n1,c1,ae1,m1,d1,z1,D1,rfl,hn1,hd1,hD1,hq1,lz1,lD1⟩:=h1.shape
 have h1:Rr w (.agg #[.bool b1,.slice ad1 n1 c1,.slice ae1 m1 d1]) q1 k:=⟨_,_,_,_,_,_,_,_,_,rfl,hn1,hd1,hD1,hq1,lz1,lD1⟩
 have ha1:=hn1.abs
 have hb1:=hn1.neg
 replace hq1:=Lib.hid hq1
 obtain⟨b2,ad2,n2,c2,ae2,m2,d2,z2,D2,rfl,hn2,hd2,hD2,hq2,lz2,lD2⟩:=h2.shape
 have h2:Rr w (.agg #[.bool b2,.slice ad2 n2 c2,.slice ae2 m2 d2]) q2 j:=⟨_,_,_,_,_,_,_,_,_,rfl,hn2,hd2,hD2,hq2,lz2,lD2⟩
 have ha2:=hn2.abs
 have hb2:=hn2.neg
 replace hq2:=Lib.hid hq2
 by_cases h0:sz (Rat.num (q2))≤0
 ·have st:=St.start w
  refine go2 (nt:=22) Tryz.func186 rfl rfl rfl fun a hF=>?_
  refine wq ?_
  refine bx st hF 0 rfl rfl fun g2 w1 a st hF=>?_
  refine bx st hF 2 rfl rfl fun g3 w2 a st hF=>?_
  refine S.alloc st hF ag rfl rfl fun g4 w3 a st hF=>?_
  refine ns ?_
  refine wq ?_
  refine oL hF st 1 1 ag rfl rfl rfl rfl fun a hF=>?_
  refine cX st hF (rgc sJ (aD hF.o)) (gY _ (q2) j _ (h2.below st.bel)) rfl fun w4 a st hF=>?_
  refine oT hF 0 (cj (c:=true) (aL h0)) rfl rfl fun a hF=>?_
  refine E.nil ?_
  refine wp_cond_true hF.o ?_
  refine wq ?_
  refine S.ck st hF (rgc k71 (aI ar ar)) (aJ (bm (0) _ (by decide) (by decide)) (bP (by decide) (by decide))) Rh.cl rfl fun vv6 w5 a st hF=>?_
  obtain⟨r8,rfl⟩:=Rr.fo (st.f 0 rfl).1
  refine so st hF 0 4 0 ag rfl rfl rfl rfl fun w9 a st hF=>?_
  refine nr ?_
  refine rs Tryz.results186 st hF 4 0 ag rfl rfl rfl ?_
  have bel:=st.bel
  exact⟨_,rfl,Rr.cast (Rr.up (st.f 0 rfl).1 _ (by omega)) (Rat.intCast_zero.trans (Df h0)),bel⟩
 ·have st:=St.start w
  refine go2 (nt:=22) Tryz.func186 rfl rfl rfl fun a hF=>?_
  refine wq ?_
  refine bx st hF 0 rfl rfl fun g2 w1 a st hF=>?_
  refine bx st hF 2 rfl rfl fun g3 w2 a st hF=>?_
  refine S.alloc st hF ag rfl rfl fun g4 w3 a st hF=>?_
  refine ns ?_
  refine wq ?_
  refine oL hF st 1 1 ag rfl rfl rfl rfl fun a hF=>?_
  refine cX st hF (rgc sJ (aD hF.o)) (gY _ (q2) j _ (h2.below st.bel)) rfl fun w4 a st hF=>?_
  refine oT hF 0 (cj (c:=false) (aV h0)) rfl rfl fun a hF=>?_
  refine E.nil ?_
  refine wp_cond_false hF.o ?_
  refine wp_skip ?_
  refine E.norm ?_
  refine wp_seq ?_
  refine E.rga 6 aF hF [10,11,12,13,14,5] [_,_,_,_,_,kn w4 [.bool false,.slice none 0 0,.slice none 0 0]] [5] ⟨fun _ _ ⟨g,e,_,o⟩=>⟨g,e,o.lt⟩,trivial⟩ (by decide+kernel) rfl rfl rfl ⟨rb st ag 5 2 rfl,ck st OB rfl fun _ s=>aJ (rP _) tl,ck st k77 rfl fun _ s _ x11=>eB ⟨(h1.below s.bel),li1⟩ x11,rb st ag 4 1 rfl,ck st sF rfl fun _ s _ x12=>pB x12 ⟨(h2.below s.bel),li2⟩,ra ag rfl rfl,trivial⟩ ?_
  intro a w5 hF bb hall hne
  have s0:=st
  replace st:=st.to bb
  obtain⟨vv6,hF,st⟩:=rS hall hF st 4 rfl rfl Rh.cl
  obtain⟨r8,rfl⟩:=Rr.fo (st.f 0 rfl).1
  obtain⟨_,e5,g5,rfl,ge5,o5⟩:=sS hall 5 5 rfl rfl
  replace st:=st.push o5.blk (Nat.le_trans s0.bel.size ge5) (s0.ne ge5)
  clear o5
  replace hF:=hF.add e5
  clear hall bb hne s0
  refine so st hF 0 0 1 ag rfl rfl rfl rfl fun w9 a st hF=>?_
  refine ns ?_
  refine E.rg 7 aF hF [15,16,17,18,19,20,21] [_,_,_,_,_,_,_] (by decide+kernel) rfl rfl rfl ⟨rb st ag 0 0 rfl,rb st ag 0 0 rfl,ck st Fh rfl fun _ s=>dt (ja _ (((q1)-(cre))/(q2)) ((k+12+1)+j) _ (s.f 0 rfl).1 (by omega) (by omega)) (fW (s.f 0 rfl).2),ck st Lo rfl fun _ s _ x17=>aJ (mQ _ (Rat.floor (((q1)-(cre))/(q2))) ((((i+2+1)+l)+1)+1) _ x17.1 (Lim.up x17.2 _ (by omega)) (by omega)) (aW (Lim.up x17.2 ((((i+2+1)+l)+1)+1) (by omega)) (by omega)),ck st k77 rfl fun _ s _ x18=>eB (s.f 0 rfl) x18,ck st k71 rfl fun _ s=>aJ (bm (360) _ (by decide) (by decide)) (bP (by decide) (by decide)),ck st k75 rfl fun _ s _ x19 _ x20=>cD x19 x20,trivial⟩ ?_
  intro a w10 hF bb hall
  replace st:=st.to bb
  obtain⟨vv11,hF,st⟩:=rS hall hF st 6 rfl rfl Rh.cl
  obtain⟨r13,rfl⟩:=Rr.fo (st.f 0 rfl).1
  clear hall bb
  refine so st hF 1 6 0 ag rfl rfl rfl rfl fun w14 a st hF=>?_
  refine nr ?_
  refine rs Tryz.results186 st hF 6 1 ag rfl rfl rfl ?_
  have bel:=st.bel
  exact⟨_,rfl,Rr.cast (Rr.up (st.f 0 rfl).1 _ (by omega)) (zz h0),bel⟩
theorem rV {w:World}:Calls Tryz.prog 125 #[] w (Ret (kh (pyr) (7) (2)) w):=aJ (pY _) mj
theorem JE {w:World}:Calls Tryz.prog 136 #[] w (Ret (kh (pmo) (7) (2)) w):=aJ (xl _) pg
theorem j5 {w:World}:Calls Tryz.prog 138 #[] w (Ret (kh (pay) (7) (2)) w):=aJ (oR _) jq
theorem sU {w:World}:Calls Tryz.prog 137 #[] w (Ret (kh (pam) (7) (2)) w):=aJ (nL _) pD
theorem AU {v1 v2:Value} {p1 p2:Rat} {k1 i1 k2 i2:Nat} {w:World} (x1:Rh p1 k1 i1 w v1) (x2:Rh p2 k2 i2 w v2) (a1:k1≤1000:=by omega) (b1:1≤k1:=by omega) (c1:i1≤100:=by omega) (a2:k2≤100:=by omega) (b2:1≤k2:=by omega) (c2:i2≤100:=by omega):Calls Tryz.prog 186 #[v1,v2] w (Ret (kh (mof (p1) (p2)) ((k1+k2+i1+i2+30)) ((i1+i2+5))) w):=aJ (DL _ _ (p1) (p2) k1 k2 i1 i2 _ x1.1 x2.1 x1.2 x2.2 (by omega) (by omega) (by omega) (by omega) (by omega) (by omega)) (jw x1.2 x2.2)
theorem tA (v1:Value) (q1:Rat) (k:Nat) (w:World) (h1:Rr w v1 q1 k) (hp:1≤k) (hk:k≤4990) (hf0:0≤Rat.floor q1) (hf1:Rat.floor q1<65536):
 Calls Tryz.prog 74 #[v1] w (aG w (.int .i64 (Rat.floor q1))):=by
 have rl1:=h1.rlim
 obtain⟨r1,rfl⟩:=h1.fo
 have st:=St.start w
 refine go1 (nt:=6) Tryz.func74 rfl rfl rfl fun a hF=>?_
 refine wq ?_
 refine bx st hF 0 rfl rfl fun g1 w1 a st hF=>?_
 refine oC hF rfl fun a hF=>nq ?_
 refine oL hF st 1 0 ag rfl rfl rfl rfl fun a hF=>?_
 refine S.ck st hF (rgc Fh (aD hF.o)) (dt (ja _ (q1) k _ (h1.below st.bel) (by omega) (by omega)) (fW rl1)) Zl.cl rfl fun vv3 w2 a st hF=>?_
 obtain⟨b5,ad5,n5,c5,rfl⟩:=Rz.form (st.f 0 rfl).1
 refine cX st hF (rgc Ob (aD hF.o)) (As _ (Rat.floor (q1)) _ (st.f 0 rfl).1 hf0 hf1) rfl fun w6 a st hF=>?_
 refine oE hF 0 rfl rfl fun a hF=>nr ?_
 have bel:=st.bel
 refine rt Tryz.results74 hF 0 rfl ?_
 exact⟨rfl,bel⟩
theorem jM (v1:Value) (q1:Rat) (k i:Nat) (w:World) (h1:Rr w v1 q1 k) (li1:ah q1 i) (hp:1≤k) (hk:k≤3000) (hi:i≤800):
 Calls Tryz.prog 219 #[v1] w (aG w (.int .i64 (pk q1))):=by
 obtain⟨r1,rfl⟩:=h1.fo
 have st:=St.start w
 refine go1 (nt:=9) Tryz.func219 rfl rfl rfl fun a hF=>?_
 refine wq ?_
 refine bx st hF 0 rfl rfl fun g1 w1 a st hF=>?_
 refine oC hF rfl fun a hF=>ns ?_
 refine E.rg 6 aF hF [3,4,5,6,7,8] [_,_,_,_,_,_] (by decide+kernel) rfl rfl rfl ⟨rb st ag 1 0 rfl,ck st k71 rfl fun _ s=>aJ (bD (4) (15) _ (by decide) (by decide) (by decide) (by decide)) (ah.up (aK (ao (by decide) (by decide)) (ao (by decide) (by decide))) 2 (by decide)),ck st k75 rfl fun _ s _ x4=>cD ⟨(h1.below s.bel),li1⟩ x4,ck st k71 rfl fun _ s=>aJ (bm (96) _ (by decide) (by decide)) (bP (by decide) (by decide)),ck st k76 rfl fun _ s _ x5 _ x6=>GH x5 x6,ck st k74 rfl fun _ s _ x7=>a9 (tA _ (rmod ((q1)*(((4:Int):Rat)/((15:Int):Rat))) (((96:Int):Rat))) ((k+2)+2+(i+2)+2+3) _ x7.1 (by omega) (by omega) (by rw[qK];exact(jG q1).1) (by rw[qK];have:=(jG q1).2;omega)),trivial⟩ ?_
 intro a w2 hF bb hall
 replace st:=st.to bb
 replace hF:=rE hall hF 5 rfl rfl
 clear hall bb
 refine oE hF 0 rfl rfl fun a hF=>nr ?_
 have bel:=st.bel
 refine rt Tryz.results219 hF 0 rfl ?_
 exact⟨bS (qK q1),bel⟩
theorem sm (v1:Value) (q1:Rat) (k i:Nat) (w:World) (h1:Rr w v1 q1 k) (li1:ah q1 i) (hp:1≤k) (hk:k≤3000) (hi:i≤800):
 Calls Tryz.prog 213 #[v1] w (aG w (.int .i64 (spk (pk q1+1)-spk (pk q1)))):=by
 obtain⟨r1,rfl⟩:=h1.fo
 have hpk:=jG q1
 have hsa:=ke (pk q1)
 have hsb:=ke (pk q1+1)
 have st:=St.start w
 refine go1 (nt:=11) Tryz.func213 rfl rfl rfl fun a hF=>?_
 refine wq ?_
 refine bx st hF 0 rfl rfl fun g1 w1 a st hF=>?_
 refine oC hF rfl fun a hF=>ns ?_
 refine E.rg 8 aF hF [3,4,5,6,7,8,9,10] [_,_,.ex (.int .i64 ((pk (q1))+1)),_,_,_,_,.ex (.int .i64 ((spk ((pk (q1))+1))-(spk (pk (q1)))))] (by decide+kernel) rfl rfl rfl ⟨rb st ag 1 0 rfl,ck st An rfl fun _ s=>a9 (jM _ (q1) k i _ (h1.below s.bel) li1 (by omega) (by omega) (by omega)),(by intro a' w' hF' hb hd;have e4:=tE hd 0 rfl;have hpk:=jG (q1);exact dv0 (aq e4 ar ab (bj (by omega) (by omega))) rfl rfl rfl),ck st Fj rfl fun _ s=>a9 (oi ((pk (q1))+1) _),rb st ag 1 0 rfl,ck st An rfl fun _ s=>a9 (jM _ (q1) k i _ (h1.below s.bel) li1 (by omega) (by omega) (by omega)),ck st Fj rfl fun _ s=>a9 (oi (pk (q1)) _),(by intro a' w' hF' hb hd;have e6:=tE hd 0 rfl;have e9:=tE hd 1 rfl;exact dv0 (aq e6 e9 ab (bN (by omega) (by omega))) rfl rfl rfl),trivial⟩ ?_
 intro a w2 hF bb hall
 replace st:=st.to bb
 replace hF:=rE hall hF 7 rfl rfl
 clear hall bb
 refine oE hF 0 rfl rfl fun a hF=>nr ?_
 have bel:=st.bel
 refine rt Tryz.results213 hF 0 rfl ?_
 exact⟨rfl,bel⟩
theorem B5 (v1:Value) (q1:Rat) (k i:Nat) (w:World) (h1:Rr w v1 q1 k) (li1:ah q1 i) (hp:1≤k) (hk:k≤3000) (hi:i≤800):
 Calls Tryz.prog 185 #[v1] w (bW w (sof q1) (k+i+40)):=by
 obtain⟨r1,rfl⟩:=h1.fo
 have hpk:=jG q1
 have st:=St.start w
 refine go1 (nt:=27) Tryz.func185 rfl rfl rfl fun a hF=>?_
 refine wq ?_
 refine bx st hF 0 rfl rfl fun g1 w1 a st hF=>?_
 refine S.alloc st hF ag rfl rfl fun g2 w2 a st hF=>?_
 refine ns ?_
 refine E.rga 6 aF hF [5,6,7,8,9,3] [_,_,_,_,_,kn w2 [.bool false,.slice none 0 0,.slice none 0 0]] [5] ⟨fun _ _ ⟨g,e,_,o⟩=>⟨g,e,o.lt⟩,trivial⟩ (by decide+kernel) rfl rfl rfl ⟨rb st ag 1 1 rfl,ck st k71 rfl fun _ s=>aJ (bD (4) (15) _ (by decide) (by decide) (by decide) (by decide)) (ah.up (aK (ao (by decide) (by decide)) (ao (by decide) (by decide))) 2 (by decide)),ck st k75 rfl fun _ s _ x6=>cD ⟨(h1.below s.bel),li1⟩ x6,ck st k71 rfl fun _ s=>aJ (bm (96) _ (by decide) (by decide)) (bP (by decide) (by decide)),ck st k76 rfl fun _ s _ x7 _ x8=>GH x7 x8,ra ag rfl rfl,trivial⟩ ?_
 intro a w3 hF bb hall hne
 have s0:=st
 replace st:=st.to bb
 obtain⟨vv4,hF,st⟩:=rS hall hF st 4 rfl rfl Rh.cl
 obtain⟨r6,rfl⟩:=Rr.fo (st.f 0 rfl).1
 obtain⟨_,e3,g3,rfl,ge3,o3⟩:=sS hall 5 3 rfl rfl
 replace st:=st.push o3.blk (Nat.le_trans s0.bel.size ge3) (s0.ne ge3)
 clear o3
 replace hF:=hF.add e3
 clear hall bb hne s0
 refine so st hF 0 0 1 ag rfl rfl rfl rfl fun w7 a st hF=>?_
 refine ns ?_
 refine E.rga 6 aF hF [10,11,12,13,14,4] [_,_,_,_,_,kn w7 [.bool false,.slice none 0 0,.slice none 0 0]] [5] ⟨fun _ _ ⟨g,e,_,o⟩=>⟨g,e,o.lt⟩,trivial⟩ (by decide+kernel) rfl rfl rfl ⟨rb st ag 0 0 rfl,rb st ag 3 2 rfl,ck st An rfl fun _ s=>a9 (jM _ (q1) k i _ (h1.below s.bel) li1 (by omega) (by omega) (by omega)),ck st k71 rfl fun _ s=>aJ (bm (pk (q1)) _ (by omega) (by omega)) (bP (by omega) (by omega)),ck st k77 rfl fun _ s _ x13=>eB (s.f 0 rfl) x13,ra ag rfl rfl,trivial⟩ ?_
 intro a w8 hF bb hall hne
 have s0:=st
 replace st:=st.to bb
 obtain⟨vv9,hF,st⟩:=rS hall hF st 4 rfl rfl Rh.cl
 obtain⟨r11,rfl⟩:=Rr.fo (st.f 0 rfl).1
 obtain⟨_,e4,g4,rfl,ge4,o4⟩:=sS hall 5 4 rfl rfl
 replace st:=st.push o4.blk (Nat.le_trans s0.bel.size ge4) (s0.ne ge4)
 clear o4
 replace hF:=hF.add e4
 clear hall bb hne s0
 refine so st hF 0 0 1 ag rfl rfl rfl rfl fun w12 a st hF=>?_
 refine ns ?_
 refine E.rg 12 aF hF [15,16,17,18,19,20,21,22,23,24,25,26] [_,_,_,_,_,_,_,_,_,_,_,_] (by decide+kernel) rfl rfl rfl ⟨rb st ag 5 3 rfl,ck st An rfl fun _ s=>a9 (jM _ (q1) k i _ (h1.below s.bel) li1 (by omega) (by omega) (by omega)),ck st Fj rfl fun _ s=>a9 (oi (pk (q1)) _),ck st k71 rfl fun _ s=>aJ (bm (spk (pk (q1))) _ (by have:=mB (pk (q1));omega) (by have:=mB (pk (q1));omega)) (bP (di (pk (q1))).1 (di (pk (q1))).2),rb st ag 0 0 rfl,rb st ag 5 3 rfl,ck st Kd rfl fun _ s=>a9 (sm _ (q1) k i _ (h1.below s.bel) li1 (by omega) (by omega) (by omega)),ck st k71 rfl fun _ s=>aJ (bm (spk (pk (q1)+1)-spk (pk (q1))) _ (by have:=v8 (pk (q1));omega) (by have:=v8 (pk (q1));omega)) (bP (eF (pk (q1))).1 (eF (pk (q1))).2),ck st k75 rfl fun _ s _ x22=>cD (s.f 0 rfl) x22,ck st lV rfl fun _ s _ x18 _ x23=>jJ x18 x23,ck st k71 rfl fun _ s=>aJ (bD (1) (3438) _ (by decide) (by decide) (by decide) (by decide)) (ah.up (aK (ao (by decide) (by decide)) (ao (by decide) (by decide))) 2 (by decide)),ck st k75 rfl fun _ s _ x24 _ x25=>cD x24 x25,trivial⟩ ?_
 intro a w13 hF bb hall
 replace st:=st.to bb
 obtain⟨vv14,hF,st⟩:=rS hall hF st 11 rfl rfl Rh.cl
 obtain⟨r16,rfl⟩:=Rr.fo (st.f 0 rfl).1
 clear hall bb
 refine so st hF 2 5 0 ag rfl rfl rfl rfl fun w17 a st hF=>?_
 refine nr ?_
 refine rs Tryz.results185 st hF 5 2 ag rfl rfl rfl ?_
 have bel:=st.bel
 exact⟨_,rfl,Rr.cast (Rr.up (st.f 0 rfl).1 _ (by omega)) (Is q1),bel⟩
theorem tJ (v1:Value) (q1:Rat) (k:Nat) (w:World) (h1:Rr w v1 q1 k) (hp:1≤k) (hk:k≤6000) (hx:¬q1<0):
 Calls Tryz.prog 222 #[v1] w (bW w (bK q1) (k+20)):=by
 have rl1:=h1.rlim
 obtain⟨r1,rfl⟩:=h1.fo
 have st:=St.start w
 refine go1 (nt:=44) Tryz.func222 rfl rfl rfl fun a hF=>?_
 refine wq ?_
 refine bx st hF 0 rfl rfl fun g1 w1 a st hF=>?_
 refine S.alloc st hF ag rfl rfl fun g2 w2 a st hF=>?_
 refine ns ?_
 refine E.rga 4 aF hF [6,7,8,3] [_,_,_,kn w2 [.bool false,.slice none 0 0,.slice none 0 0]] [3] ⟨fun _ _ ⟨g,e,_,o⟩=>⟨g,e,o.lt⟩,trivial⟩ (by decide+kernel) rfl rfl rfl ⟨rb st ag 1 1 rfl,ck st k71 rfl fun _ s=>aJ (bm (3438) _ (by decide) (by decide)) (bP (by decide) (by decide)),ck st k75 rfl fun _ s _ x7=>cD ⟨(h1.below s.bel),rl1⟩ x7,ra ag rfl rfl,trivial⟩ ?_
 intro a w3 hF bb hall hne
 have s0:=st
 replace st:=st.to bb
 obtain⟨vv4,hF,st⟩:=rS hall hF st 2 rfl rfl Rh.cl
 obtain⟨r6,rfl⟩:=Rr.fo (st.f 0 rfl).1
 obtain⟨_,e3,g3,rfl,ge3,o3⟩:=sS hall 3 3 rfl rfl
 replace st:=st.push o3.blk (Nat.le_trans s0.bel.size ge3) (s0.ne ge3)
 clear o3
 replace hF:=hF.add e3
 clear hall bb hne s0
 refine so st hF 0 0 1 ag rfl rfl rfl rfl fun w7 a st hF=>?_
 refine nq ?_
 refine oC hF rfl fun a hF=>ns ?_
 refine wp_block ?_
 refine E.loop (fun mq a wv=>∃(j:Nat),j≤24∧ykf (q1*((3438:Int):Rat)) (24-j) j=yk (q1*((3438:Int):Rat))∧Fr 44 a [(4,.int .i64 ((j:Nat):Int)),(3,.pointer (some ⟨g3,0,none⟩)),(2,.pointer (some ⟨g2,0,none⟩))]∧St w wv [(g3,r6.l),(g2,[.bool false,.slice none 0 0,.slice none 0 0])] [fun w=>Rh ((q1)*(((3438:Int):Rat))) ((k+2)) ((k+2)) w (r6.v)]∧mq=24-j) (24-0) ?_ ?_
 ·exact⟨0,(by omega),rfl,Fr.pick (L':=[(4,.int .i64 0),(3,.pointer (some ⟨g3,0,none⟩)),(2,.pointer (some ⟨g2,0,none⟩))]) hF [0,1,3] rfl,st.pick [0,1] [0] rfl rfl (by decide),rfl⟩
 ·rintro mq a w8 ⟨j,hj,hyk,hF,st,hm⟩
  have hsa:=v8 ((j:Nat):Int)
  refine wp_seq ?_
  refine wp_seq ?_
  by_cases hc9:((j:Nat):Int)<24
  ·refine E.rg 8 aF hF [9,10,11,12,13,14,15,16] [_,.ex (.bool true),.ex (.bool true),.ex (r6.v),.ex (.int .i64 ((j:Nat):Int)),.ex (.int .i64 (((j:Nat):Int)+1)),.ex (.int .i64 (spk (((j:Nat):Int)+1))),.of (fun w v=>Rh (((spk (((j:Nat):Int)+1):Int):Rat)) (2) (2) w v) (Rh.mb _ _ _)] (by decide+kernel) rfl rfl rfl ⟨rm 0 rfl,(by intro a' w' hF' hb hd;have e9:=tE hd 0 rfl;exact dv0 (aq e9 ar ab (aU (bM (c:=true) (aL hc9)) (by simp))) rfl rfl rfl),(by intro a' w' hF' hb hd;have e10:=tE hd 0 rfl;exact dv0 (aN e10) rfl rfl rfl),(by intro a' w' hF' hb hd;have e11:=tE hd 0 rfl;exact dv1 (aA rfl rfl e11 rfl) (au (hF'.at 1 rfl) (bF ag ((st.bk 0 rfl).below hb) rfl)) rfl rfl),(by intro a' w' hF' hb hd;have e11:=tE hd 0 rfl;exact dv1 (aA rfl rfl e11 rfl) (aN (hF'.at 0 rfl)) rfl rfl),(by intro a' w' hF' hb hd;have e11:=tE hd 1 rfl;have e13:=tE hd 0 rfl;exact dv1 (aA rfl rfl e11 rfl) (aq e13 ar ab (bj (by omega) (by omega))) rfl rfl),(by intro a' w' hF' hb hd;have e11:=tE hd 1 rfl;have e14:=tE hd 0 rfl;exact nC (aA rfl rfl e11 rfl) (rk AC (aD e14)) (mR (((j:Nat):Int)+1) _ (by omega) (by omega)) (fun _=>rfl) rfl),(by intro a' w' hF' hb hd;have e11:=tE hd 2 rfl;have e15:=tE hd 0 rfl;exact dc1 (aA rfl rfl e11 rfl) (rk vE (aI e15 ar)) (aJ (bm (spk (((j:Nat):Int)+1)) _ (by have:=mB (((j:Nat):Int)+1);omega) (by have:=mB (((j:Nat):Int)+1);omega)) (bP (di (((j:Nat):Int)+1)).1 (di (((j:Nat):Int)+1)).2)) rfl),trivial⟩ ?_
   intro a w10 hF bb hall
   replace st:=st.to bb
   replace hF:=rE hall hF 2 rfl rfl
   replace hF:=rE hall hF 3 rfl rfl
   obtain⟨vv11,hF,st⟩:=rS hall hF st 7 rfl rfl Rh.cl
   obtain⟨r13,rfl⟩:=Rr.fo (st.f 0 rfl).1
   clear hall bb
   refine S.callxg st hF (aA rfl rfl hF.q rfl) (rgc Mf (aI hF.p hF.o)) (lJ _ _ _ _ (k+2) 2 _ (st.f 1 rfl).1 (st.f 0 rfl).1 (by omega) (by omega)) rfl rfl rfl fun w14 a st hF=>?_
   by_cases hc15:0<qc ((q1)*(((3438:Int):Rat))) (((spk (((j:Nat):Int)+1):Int):Rat))
   ·refine og hF (aq hF.o ar ab (aU (db (c:=true) (aL hc15)) (by simp))) 3 rfl rfl rfl fun a hF=>oV hF (aH (hF.at 4 rfl) hF.o) rfl fun a hF=>?_
    refine E.nil ?_
    refine wp_cond_true hF.o ?_
    refine wp_skip ?_
    refine E.norm ?_
    refine wp_block ?_
    refine E.seq ?_
    refine oM hF 6 rfl rfl fun a hF=>oV hF (aq hF.o ar ab (bj (by omega) (by omega))) rfl fun a hF=>oE hF 0 rfl rfl fun a hF=>?_
    refine E.nil0 ?_
    refine E.blk ?_
    refine E.norm ?_
    exact⟨24-(j+1),by omega,⟨(j+1),(by omega),(yE (by omega) hyk hc15),(by rw[show((j+1:Nat):Int)=((j:Nat):Int)+1 from by omega];exact Fr.pick (L':=[(4,.int .i64 (((j:Nat):Int)+1)),(3,.pointer (some ⟨g3,0,none⟩)),(2,.pointer (some ⟨g2,0,none⟩))]) hF [0,9,10] rfl),st.pick [0,1] [1] rfl rfl (by decide),rfl⟩⟩
   ·refine og hF (aq hF.o ar ab (aU (db (c:=false) (aV hc15)) (by simp))) 3 rfl rfl rfl fun a hF=>oV hF (aH (hF.at 4 rfl) hF.o) rfl fun a hF=>?_
    refine E.nil ?_
    refine wp_cond_false hF.o ?_
    refine wp_exit ?_
    refine E.past ?_
    refine E.past ?_
    refine E.out (id:=0) ?_
    refine E.norm ?_
    refine wp_seq ?_
    refine wq ?_
    refine oM hF 6 rfl rfl fun a hF=>?_
    by_cases hc16:((j:Nat):Int)=24
    ·(exfalso;omega)
    ·refine oT hF 0 (a6 (c:=false) (aV hc16)) rfl rfl fun a hF=>?_
     refine E.nil ?_
     refine wp_cond_false hF.o ?_
     refine wp_skip ?_
     refine E.norm ?_
     refine wp_seq ?_
     refine E.rga 14 aF hF [25,26,27,28,29,30,31,32,33,34,35,36,37,5] [_,_,_,_,_,_,.ex (.int .i64 (((j:Nat):Int)+1)),_,_,_,.ex (.int .i64 ((spk (((j:Nat):Int)+1))-(spk ((j:Nat):Int)))),_,_,kn w14 [.bool false,.slice none 0 0,.slice none 0 0]] [13] ⟨fun _ _ ⟨g,e,_,o⟩=>⟨g,e,o.lt⟩,trivial⟩ (by decide+kernel) rfl rfl rfl ⟨rb st ag 9 0 rfl,rm 8 rfl,ck st Fg rfl fun _ s=>a9 (mR ((j:Nat):Int) _ (by omega) (by omega)),ck st k71 rfl fun _ s=>aJ (bm (spk ((j:Nat):Int)) _ (by have:=mB ((j:Nat):Int);omega) (by have:=mB ((j:Nat):Int);omega)) (bP (di ((j:Nat):Int)).1 (di ((j:Nat):Int)).2),ck st k77 rfl fun _ s _ x28=>eB (s.f 1 rfl) x28,rm 8 rfl,(by intro a' w' hF' hb hd;have e30:=tE hd 0 rfl;exact dv0 (aq e30 ar ab (bj (by omega) (by omega))) rfl rfl rfl),ck st Fg rfl fun _ s=>a9 (mR (((j:Nat):Int)+1) _ (by omega) (by omega)),rm 8 rfl,ck st Fg rfl fun _ s=>a9 (mR ((j:Nat):Int) _ (by omega) (by omega)),(by intro a' w' hF' hb hd;have e32:=tE hd 0 rfl;have e34:=tE hd 1 rfl;exact dv0 (aq e32 e34 ab (bN (by omega) (by omega))) rfl rfl rfl),ck st k71 rfl fun _ s=>aJ (bm ((spk (((j:Nat):Int)+1))-(spk ((j:Nat):Int))) _ (by omega) (by omega)) (bP (by omega) (by omega)),ck st sF rfl fun _ s _ x29 _ x36=>pB x29 x36,ra ag rfl rfl,trivial⟩ ?_
     intro a w22 hF bb hall hne
     have s0:=st
     replace st:=st.to bb
     obtain⟨vv23,hF,st⟩:=rS hall hF st 12 rfl rfl Rh.cl
     obtain⟨r25,rfl⟩:=Rr.fo (st.f 0 rfl).1
     obtain⟨_,e5,g5,rfl,ge5,o5⟩:=sS hall 13 5 rfl rfl
     replace st:=st.push o5.blk (Nat.le_trans s0.bel.size ge5) (s0.ne ge5)
     clear o5
     replace hF:=hF.add e5
     clear hall bb hne s0
     refine so st hF 0 0 1 ag rfl rfl rfl rfl fun w26 a st hF=>?_
     refine ns ?_
     refine E.rg 6 aF hF [38,39,40,41,42,43] [_,_,_,_,_,_] (by decide+kernel) rfl rfl rfl ⟨rm 10 rfl,ck st k71 rfl fun _ s=>aJ (bm (((j:Nat):Int)) _ (by omega) (by omega)) (bP (by omega) (by omega)),rb st ag 0 0 rfl,ck st lV rfl fun _ s _ x39=>jJ x39 (s.f 0 rfl),ck st k71 rfl fun _ s=>aJ (bD (15) (4) _ (by decide) (by decide) (by decide) (by decide)) (ah.up (aK (ao (by decide) (by decide)) (ao (by decide) (by decide))) 2 (by decide)),ck st k75 rfl fun _ s _ x41 _ x42=>cD x41 x42,trivial⟩ ?_
     intro a w27 hF bb hall
     replace st:=st.to bb
     obtain⟨vv28,hF,st⟩:=rS hall hF st 5 rfl rfl Rh.cl
     obtain⟨r30,rfl⟩:=Rr.fo (st.f 0 rfl).1
     clear hall bb
     refine so st hF 2 13 0 ag rfl rfl rfl rfl fun w31 a st hF=>?_
     refine nr ?_
     refine rs Tryz.results222 st hF 13 2 ag rfl rfl rfl ?_
     have bel:=st.bel
     exact⟨_,rfl,Rr.cast (Rr.up (st.f 0 rfl).1 _ (by omega)) (CN hx (by omega) (yU (by omega) hyk hc15)),bel⟩
  ·refine E.rg 8 aF hF [9,10,11,12,13,14,15,16] [_,.ex (.bool false),.ex (.bool false),.ex undef,.ex undef,.ex undef,.ex undef,.ex undef] (by decide+kernel) rfl rfl rfl ⟨rm 0 rfl,(by intro a' w' hF' hb hd;have e9:=tE hd 0 rfl;exact dv0 (aq e9 ar ab (aU (bM (c:=false) (aV hc9)) (by simp))) rfl rfl rfl),(by intro a' w' hF' hb hd;have e10:=tE hd 0 rfl;exact dv0 (aN e10) rfl rfl rfl),(by intro a' w' hF' hb hd;have e11:=tE hd 0 rfl;exact kT (aA rfl rfl e11 rfl) ⟨rfl,by decide⟩),(by intro a' w' hF' hb hd;have e11:=tE hd 0 rfl;exact kT (aA rfl rfl e11 rfl) ⟨rfl,by decide⟩),(by intro a' w' hF' hb hd;have e11:=tE hd 1 rfl;exact kT (aA rfl rfl e11 rfl) ⟨rfl,by decide⟩),(by intro a' w' hF' hb hd;have e11:=tE hd 1 rfl;exact kT (aA rfl rfl e11 rfl) ⟨rfl,by decide⟩),(by intro a' w' hF' hb hd;have e11:=tE hd 2 rfl;exact kT (aA rfl rfl e11 rfl) ⟨rfl,by decide⟩),trivial⟩ ?_
   intro a w32 hF bb hall
   replace st:=st.to bb
   replace hF:=rE hall hF 2 rfl rfl
   replace hF:=rE hall hF 3 rfl rfl
   replace hF:=rE hall hF 7 rfl rfl
   clear hall bb
   refine nu hF 2 rfl rfl rfl fun a hF=>nu hF 3 rfl rfl rfl fun a hF=>oV hF (bp (hF.at 4 rfl) ar) rfl fun a hF=>?_
   refine E.nil ?_
   refine wp_cond_false hF.o ?_
   refine wp_exit ?_
   refine E.past ?_
   refine E.past ?_
   refine E.out (id:=0) ?_
   refine E.norm ?_
   refine wp_seq ?_
   refine wq ?_
   refine oM hF 6 rfl rfl fun a hF=>?_
   by_cases hc33:((j:Nat):Int)=24
   ·refine oT hF 0 (a6 (c:=true) (aL hc33)) rfl rfl fun a hF=>?_
    refine E.nil ?_
    refine wp_cond_true hF.o ?_
    refine wq ?_
    refine S.ck st hF (rgc k71 (aI ar ar)) (aJ (bm (90) _ (by decide) (by decide)) (bP (by decide) (by decide))) Rh.cl rfl fun vv35 w34 a st hF=>?_
    obtain⟨r37,rfl⟩:=Rr.fo (st.f 0 rfl).1
    refine so st hF 1 11 0 ag rfl rfl rfl rfl fun w38 a st hF=>?_
    refine nr ?_
    refine rs Tryz.results222 st hF 11 1 ag rfl rfl rfl ?_
    have bel:=st.bel
    have e24:j=24:=by omega
    subst e24
    exact⟨_,rfl,Rr.cast (Rr.up (st.f 0 rfl).1 _ (by omega)) (zt hx hyk.symm),bel⟩
   ·(exfalso;omega)
theorem Ci (v1:Value) (q1:Rat) (k:Nat) (w:World) (h1:Rr w v1 q1 k) (hp:1≤k) (hk:k≤6000):
 Calls Tryz.prog 188 #[v1] w (bW w (bK q1) (k+20)):=by
 have rl1:=h1.rlim
 obtain⟨b1,ad1,n1,c1,ae1,m1,d1,z1,D1,rfl,hn1,hd1,hD1,hq1,lz1,lD1⟩:=h1.shape
 have h1:Rr w (.agg #[.bool b1,.slice ad1 n1 c1,.slice ae1 m1 d1]) q1 k:=⟨_,_,_,_,_,_,_,_,_,rfl,hn1,hd1,hD1,hq1,lz1,lD1⟩
 have ha1:=hn1.abs
 have hb1:=hn1.neg
 replace hq1:=Lib.hid hq1
 by_cases hn:sz (Rat.num (q1))<0
 ·have hx:q1<0:=me.1 hn
  have st:=St.start w
  refine go1 (nt:=12) Tryz.func188 rfl rfl rfl fun a hF=>?_
  refine wq ?_
  refine bx st hF 0 rfl rfl fun g1 w1 a st hF=>?_
  refine S.alloc st hF ag rfl rfl fun g2 w2 a st hF=>?_
  refine ns ?_
  refine wq ?_
  refine oL hF st 1 1 ag rfl rfl rfl rfl fun a hF=>?_
  refine cX st hF (rgc sJ (aD hF.o)) (gY _ (q1) k _ (h1.below st.bel)) rfl fun w3 a st hF=>?_
  refine oT hF 0 (bM (c:=true) (aL hn)) rfl rfl fun a hF=>?_
  refine E.nil ?_
  refine wp_cond_true hF.o ?_
  refine wq ?_
  refine oL hF st 4 1 ag rfl rfl rfl rfl fun a hF=>?_
  refine S.ck st hF (rgc Ao (aD hF.o)) (aJ (k7 _ (q1) k _ (h1.below st.bel)) (fK rl1)) Rh.cl rfl fun vv5 w4 a st hF=>?_
  obtain⟨r7,rfl⟩:=Rr.fo (st.f 0 rfl).1
  refine ca st hF (rgc Kh (aD hF.o)) (tJ _ (-(q1)) k _ (st.f 0 rfl).1 (by omega) (by omega) (fun e=>za hx (me.2 e))) (fun _ _ h=>h) Rr.cl rfl fun vv9 w8 a st hF=>?_
  obtain⟨r11,rfl⟩:=Rr.fo (st.f 0 rfl)
  refine ca st hF (rgc Ao (aD hF.o)) (k7 _ _ (k+20) _ (st.f 0 rfl)) (fun _ _ h=>h) Rr.cl rfl fun vv13 w12 a st hF=>?_
  obtain⟨r15,rfl⟩:=Rr.fo (st.f 0 rfl)
  refine so st hF 0 7 0 ag rfl rfl rfl rfl fun w16 a st hF=>?_
  refine nr ?_
  refine rs Tryz.results188 st hF 7 0 ag rfl rfl rfl ?_
  have bel:=st.bel
  exact⟨_,rfl,Rr.cast (Rr.up (st.f 0 rfl) _ (by omega)) (ze hx),bel⟩
 ·have hx:¬q1<0:=fun e=>hn (me.2 e)
  have st:=St.start w
  refine go1 (nt:=12) Tryz.func188 rfl rfl rfl fun a hF=>?_
  refine wq ?_
  refine bx st hF 0 rfl rfl fun g1 w1 a st hF=>?_
  refine S.alloc st hF ag rfl rfl fun g2 w2 a st hF=>?_
  refine ns ?_
  refine wq ?_
  refine oL hF st 1 1 ag rfl rfl rfl rfl fun a hF=>?_
  refine cX st hF (rgc sJ (aD hF.o)) (gY _ (q1) k _ (h1.below st.bel)) rfl fun w3 a st hF=>?_
  refine oT hF 0 (bM (c:=false) (aV hn)) rfl rfl fun a hF=>?_
  refine E.nil ?_
  refine wp_cond_false hF.o ?_
  refine wp_skip ?_
  refine E.norm ?_
  refine wq ?_
  refine oL hF st 4 1 ag rfl rfl rfl rfl fun a hF=>?_
  refine ca st hF (rgc Kh (aD hF.o)) (tJ _ (q1) k _ (h1.below st.bel) (by omega) (by omega) hx) (fun _ _ h=>h) Rr.cl rfl fun vv5 w4 a st hF=>?_
  obtain⟨r7,rfl⟩:=Rr.fo (st.f 0 rfl)
  refine so st hF 0 5 0 ag rfl rfl rfl rfl fun w8 a st hF=>?_
  refine nr ?_
  refine rs Tryz.results188 st hF 5 0 ag rfl rfl rfl ?_
  have bel:=st.bel
  exact⟨_,rfl,Rr.cast (Rr.up (st.f 0 rfl) _ (by omega)) rfl,bel⟩
end Go.Proofs.YtdbiegfmgabicaaGreatDoor
