import Derived.Test.YtgdpkknapcgcbaaGreatDoorKC20
import Derived.Test.YtgdpkknapcgcbaaGreatDoorKC24
namespace Go.Proofs.YtgdpkknapcgcbaaGreatDoor
open Go.RowKit
set_option maxRecDepth 100000
set_option linter.unusedVariables false
set_option maxHeartbeats 8000000
theorem lV {v1 v2:Value} {p1 p2:Rat} {k1 i1 k2 i2:Nat} {w:World} (x1:Rh p1 k1 i1 w v1) (x2:Rh p2 k2 i2 w v2) (a1:k1<=10000:=by omega) (b1:1<=k1:=by omega) (a2:k2<=10000:=by omega) (b2:1<=k2:=by omega):CP 201 #[v1,v2] w (Ret (kh ((p1)+(p2)) ((k1+k2+1)) ((i1+i2+1))) w):=bH (ro _ _ (p1) (p2) k1 k2 _ x1.1 x2.1 (by omega) (by omega) (by omega) (by omega)) (bP x1.2 x2.2)
theorem fU {v1 v2:Value} {p1 p2:Rat} {k1 i1 k2 i2:Nat} {w:World} (x1:Rh p1 k1 i1 w v1) (x2:Rh p2 k2 i2 w v2) (a1:k1<=10000:=by omega) (b1:1<=k1:=by omega) (a2:k2<=10000:=by omega) (b2:1<=k2:=by omega):CP 166 #[v1,v2] w (Ret (kh ((p1)-(p2)) ((k1+k2+1)) ((i1+i2+1))) w):=bH (ng _ _ (p1) (p2) k1 k2 _ x1.1 x2.1 (by omega) (by omega) (by omega) (by omega)) (cD x1.2 x2.2)
theorem cR {v1 v2:Value} {p1 p2:Rat} {k1 i1 k2 i2:Nat} {w:World} (x1:Rh p1 k1 i1 w v1) (x2:Rh p2 k2 i2 w v2) (a1:k1<=10000:=by omega) (b1:1<=k1:=by omega) (a2:k2<=10000:=by omega) (b2:1<=k2:=by omega):CP 140 #[v1,v2] w (Ret (kh ((p1)*(p2)) ((k1+k2)) ((i1+i2))) w):=bH (wU _ _ (p1) (p2) k1 k2 _ x1.1 x2.1 (by omega) (by omega) (by omega) (by omega)) (bm x1.2 x2.2)
theorem ur {v1 v2:Value} {p1 p2:Rat} {k1 i1 k2 i2:Nat} {w:World} (x1:Rh p1 k1 i1 w v1) (x2:Rh p2 k2 i2 w v2) (a1:k1<=10000:=by omega) (b1:1<=k1:=by omega) (a2:k2<=10000:=by omega) (b2:1<=k2:=by omega):CP 245 #[v1,v2] w (Ret (kh ((p1)/(p2)) ((k1+k2)) ((i1+i2))) w):=bH (xr _ _ (p1) (p2) k1 k2 _ x1.1 x2.1 (by omega) (by omega) (by omega) (by omega)) (dX x1.2 x2.2)
theorem KM {v1 v2:Value} {p1 p2:Rat} {k1 i1 k2 i2:Nat} {w:World} (x1:Rh p1 k1 i1 w v1) (x2:Rh p2 k2 i2 w v2) (a1:k1<=4000:=by omega) (b1:1<=k1:=by omega) (c1:i1<=2000:=by omega) (a2:k2<=100:=by omega) (b2:1<=k2:=by omega) (c2:i2<=100:=by omega):CP 206 #[v1,v2] w (Ret (kh (rmod (p1) (p2)) ((k1+k2+i1+i2+3)) ((i1+i1+i2+i2+3))) w):=bH (qN _ _ (p1) (p2) k1 k2 i1 i2 _ x1.1 x2.1 x1.2 x2.2 (by omega) (by omega) (by omega) (by omega) (by omega) (by omega)) (mv x1.2 x2.2)
theorem uy {v1 v2:Value} {p1:Rat} {k1 i1 k2 i2:Nat} {w:World} (x1:Rh p1 k1 i1 w v1) (x2:Rh ((360:Int):Rat) k2 i2 w v2) (a1:k1<=4000:=by omega) (b1:1<=k1:=by omega) (c1:i1<=2000:=by omega) (a2:k2<=100:=by omega) (b2:1<=k2:=by omega) (c2:i2<=100:=by omega):CP 206 #[v1,v2] w (Ret (kh (rmod p1 ((360:Int):Rat)) (k1+k2+i1+i2+3) (i1+4)) w):=bH (qN _ _ _ _ k1 k2 i1 i2 _ x1.1 x2.1 x1.2 x2.2 (by omega) (by omega) (by omega) (by omega) (by omega) (by omega)) (gz x1.2)
theorem dS {n d:Int} {w:World} (b1: -9223372036854775808<n:=by omega) (b2:n<=9223372036854775807:=by omega) (b3: -9223372036854775808<d:=by omega) (b4:d<=9223372036854775807:=by omega):CP 143 #[iv n,iv d] w (Ret (kh ((n:Rat)/(d:Rat)) 2 2) w):=bH (rL n d _ b1 b2 b3 b4) (av.up (fO (co (Int.le_of_lt b1) b2) (co (Int.le_of_lt b3) b4)) 2 (by decide))
theorem eE {n:Int} {w:World} (b1: -9223372036854775808<n:=by omega) (b2:n<=9223372036854775807:=by omega):CP 143 #[iv n,iv 1] w (Ret (kh (n:Rat) 2 2) w):=bH (gZ n _ b1 b2) (eC (Int.le_of_lt b1) b2)
theorem sZ (w:World):
 CP 246 #[] w (cf w pyr 7):=by
 refine gs0 (nt:=2) Tryz.func246 rfl rfl fun a st hF=>wq<|S.alloc st hF ag rfl rfl fun g0 w1 a st hF=>nq<|S.ck st hF (rgc bM (aL ao ao)) dS Rh.cl rfl fun vv3 w2 a st hF=>?_
 obtain⟨r5,rfl⟩:=Rr.fo (st.f 0 rfl).1
 refine so st hF 0 1 0 ag rfl rfl rfl rfl fun w6 a st hF=>nr<|rs Tryz.results246 st hF 1 0 ag rfl rfl rfl ?_
 exact⟨_,rfl,Rr.cast (Rr.up (st.f 0 rfl).1 _ (by omega)) (by decide+kernel),st.bel⟩
theorem zi (w:World):
 CP 250 #[] w (cf w pmo 7):=by
 refine gs0 (nt:=4) Tryz.func250 rfl rfl fun a st hF=>wq<|S.alloc st hF ag rfl rfl fun g0 w1 a st hF=>nq<|S.ck st hF (rgc bM (aL ao ao)) eE Rh.cl rfl fun vv3 w2 a st hF=>?_
 obtain⟨r5,rfl⟩:=Rr.fo (st.f 0 rfl).1
 refine S.ck st hF (rgc bM (aL ao ao)) dS Rh.cl rfl fun vv7 w6 a st hF=>?_
 obtain⟨r9,rfl⟩:=Rr.fo (st.f 0 rfl).1
 refine S.ck st hF (rgc nE (aL hF.p hF.o)) (lV (st.f 1 rfl) (st.f 0 rfl)) Rh.cl rfl fun vv11 w10 a st hF=>?_
 obtain⟨r13,rfl⟩:=Rr.fo (st.f 0 rfl).1
 refine so st hF 0 3 0 ag rfl rfl rfl rfl fun w14 a st hF=>nr<|rs Tryz.results250 st hF 3 0 ag rfl rfl rfl ?_
 exact⟨_,rfl,Rr.cast (Rr.up (st.f 0 rfl).1 _ (by omega)) (by decide+kernel),st.bel⟩
theorem qW (w:World):
 CP 241 #[] w (cf w pay 7):=by
 refine gs0 (nt:=2) Tryz.func241 rfl rfl fun a st hF=>wq<|S.alloc st hF ag rfl rfl fun g0 w1 a st hF=>nq<|S.ck st hF (rgc bM (aL ao ao)) dS Rh.cl rfl fun vv3 w2 a st hF=>?_
 obtain⟨r5,rfl⟩:=Rr.fo (st.f 0 rfl).1
 refine so st hF 0 1 0 ag rfl rfl rfl rfl fun w6 a st hF=>nr<|rs Tryz.results241 st hF 1 0 ag rfl rfl rfl ?_
 exact⟨_,rfl,Rr.cast (Rr.up (st.f 0 rfl).1 _ (by omega)) (by decide+kernel),st.bel⟩
theorem ql (w:World):
 CP 251 #[] w (cf w pam 7):=by
 refine gs0 (nt:=2) Tryz.func251 rfl rfl fun a st hF=>wq<|S.alloc st hF ag rfl rfl fun g0 w1 a st hF=>nq<|S.ck st hF (rgc bM (aL ao ao)) dS Rh.cl rfl fun vv3 w2 a st hF=>?_
 obtain⟨r5,rfl⟩:=Rr.fo (st.f 0 rfl).1
 refine so st hF 0 1 0 ag rfl rfl rfl rfl fun w6 a st hF=>nr<|rs Tryz.results251 st hF 1 0 ag rfl rfl rfl ?_
 exact⟨_,rfl,Rr.cast (Rr.up (st.f 0 rfl).1 _ (by omega)) (by decide+kernel),st.bel⟩
theorem uI (w:World):
 CP 272 #[] w (cf w cre 12):=by
 refine gs0 (nt:=6) Tryz.func272 rfl rfl fun a st hF=>wq<|S.alloc st hF ag rfl rfl fun g0 w1 a st hF=>nq<|S.ck st hF (rgc bM (aL ao ao)) eE Rh.cl rfl fun vv3 w2 a st hF=>?_
 obtain⟨r5,rfl⟩:=Rr.fo (st.f 0 rfl).1
 refine S.ck st hF (rgc bM (aL ao ao)) eE Rh.cl rfl fun vv7 w6 a st hF=>?_
 obtain⟨r9,rfl⟩:=Rr.fo (st.f 0 rfl).1
 refine S.ck st hF (rgc Dr fR) (bH (sZ _) ol) Rh.cl rfl fun vv11 w10 a st hF=>?_
 obtain⟨r13,rfl⟩:=Rr.fo (st.f 0 rfl).1
 refine S.ck st hF (rgc dA (aL hF.p hF.o)) (cR (st.f 1 rfl) (st.f 0 rfl)) Rh.cl rfl fun vv15 w14 a st hF=>?_
 obtain⟨r17,rfl⟩:=Rr.fo (st.f 0 rfl).1
 refine S.ck st hF (rgc ij (aL (hF.at 3 rfl) hF.o)) (fU (st.f 3 rfl) (st.f 0 rfl)) Rh.cl rfl fun vv19 w18 a st hF=>?_
 obtain⟨r21,rfl⟩:=Rr.fo (st.f 0 rfl).1
 refine so st hF 0 5 0 ag rfl rfl rfl rfl fun w22 a st hF=>nr<|rs Tryz.results272 st hF 5 0 ag rfl rfl rfl ?_
 exact⟨_,rfl,Rr.cast (Rr.up (st.f 0 rfl).1 _ (by omega)) (by decide+kernel),st.bel⟩
theorem JO (v1 v2:Value) (q1 q2:Rat) (k j i l:Nat) (w:World) (h1:Rr w v1 q1 k) (h2:Rr w v2 q2 j) (li1:av q1 i) (li2:av q2 l) (hp:1<=k) (hp2:1<=j) (hk:k<=1000) (hj:j<=100) (hi:i<=100) (hl:l<=100):
 CP 240 #[v1,v2] w (cf w (mof q1 q2) (k+j+i+l+30)):=by
 obtain⟨b1,ad1,n1,c1,ae1,m1,d1,z1,D1,rfl,hn1,hd1,hD1,hq1,lz1,lD1⟩:=h1.shape
 have ha1:=hn1.abs
 have hb1:=hn1.neg
 replace hq1:=Lib.hid hq1
 obtain⟨b2,ad2,n2,c2,ae2,m2,d2,z2,D2,rfl,hn2,hd2,hD2,hq2,lz2,lD2⟩:=h2.shape
 have ha2:=hn2.abs
 have hb2:=hn2.neg
 replace hq2:=Lib.hid hq2
 by_cases h0:sz (Rat.num (q2))<=0
 ·have st:=St.start w
  refine go2 (nt:=22) Tryz.func240 rfl rfl rfl fun a hF=>wq<|bx st hF 0 rfl rfl fun g2 w1 a st hF=>bx st hF 2 rfl rfl fun g3 w2 a st hF=>S.alloc st hF ag rfl rfl fun g4 w3 a st hF=>ns<|wq<|oL hF st 1 1 ag rfl rfl rfl rfl fun a hF=>cX st hF (rgc qD (aG hF.o)) (iZ _ (q2) j _ (h2.below st.bel)) rfl fun w4 a st hF=>?_
  refine oT hF 0 (cg (c:=true) (aI h0)) rfl rfl fun a hF=>E.nil<|wp_cond_true hF.o<|wq<|S.ck st hF (rgc bM (aL ao ao)) eE Rh.cl rfl fun vv6 w5 a st hF=>?_
  obtain⟨r8,rfl⟩:=Rr.fo (st.f 0 rfl).1
  refine so st hF 0 4 0 ag rfl rfl rfl rfl fun w9 a st hF=>nr<|rs Tryz.results240 st hF 4 0 ag rfl rfl rfl ?_
  exact⟨_,rfl,Rr.cast (Rr.up (st.f 0 rfl).1 _ (by omega)) (Rat.intCast_zero.trans (Fo h0)),st.bel⟩
 ·have st:=St.start w
  refine go2 (nt:=22) Tryz.func240 rfl rfl rfl fun a hF=>wq<|bx st hF 0 rfl rfl fun g2 w1 a st hF=>bx st hF 2 rfl rfl fun g3 w2 a st hF=>S.alloc st hF ag rfl rfl fun g4 w3 a st hF=>ns<|wq<|oL hF st 1 1 ag rfl rfl rfl rfl fun a hF=>cX st hF (rgc qD (aG hF.o)) (iZ _ (q2) j _ (h2.below st.bel)) rfl fun w4 a st hF=>?_
  refine oT hF 0 (cg (c:=false) (aJ h0)) rfl rfl fun a hF=>E.nil<|wp_cond_false hF.o<|wp_skip<|E.norm<|wp_seq<|gz1 6 aM st hF ag [10,11,12,13,14,5] [_,_,_,_,_,_] (by decide+kernel) rfl rfl rfl ⟨rb st ag 5 2 rfl,ck st RZ rfl fun _ s=>bH (uI _) vu,ck st ij rfl fun _ s _ x11=>fU ⟨(h1.below s.bel),li1⟩ x11,rb st ag 4 1 rfl,ck st wi rfl fun _ s _ x12=>ur x12 ⟨(h2.below s.bel),li2⟩,ra ag rfl rfl,trivial⟩ fun r8 g5 w9 a st hF=>ns<|gz2 7 aM st hF ag 1 5 [15,16,17,18,19,20,21] [_,_,_,_,_,_,_] (by decide+kernel) rfl rfl rfl ⟨rb st ag 0 0 rfl,rb st ag 0 0 rfl,ck st C7 rfl fun _ s=>cP (kl _ (((q1)-(cre))/(q2)) ((k+12+1)+j) _ (s.f 0 rfl).1 (by omega) (by omega)) (gH (s.f 0 rfl).2),ck st H3 rfl fun _ s _ x17=>bH (pl _ (Rat.floor (((q1)-(cre))/(q2))) ((((i+2+1)+l)+1)+1) _ x17.1 (Lim.up x17.2 _ (by omega)) (by omega)) (cK (Lim.up x17.2 ((((i+2+1)+l)+1)+1) (by omega)) (by omega)),ck st ij rfl fun _ s _ x18=>fU (s.f 0 rfl) x18,ck st bM rfl fun _ s=>eE,ck st dA rfl fun _ s _ x19 _ x20=>cR x19 x20,trivial⟩ fun r13 w14 a st hF=>?_
  refine nr<|rs Tryz.results240 st hF 6 1 ag rfl rfl rfl ?_
  exact⟨_,rfl,Rr.cast (Rr.up (st.f 0 rfl).1 _ (by omega)) (BD h0),st.bel⟩
theorem yy {w:World}:CP 246 #[] w (Ret (kh (pyr) (7) (2)) w):=bH (sZ _) ol
theorem LC {w:World}:CP 250 #[] w (Ret (kh (pmo) (7) (2)) w):=bH (zi _) sF
theorem lQ {w:World}:CP 241 #[] w (Ret (kh (pay) (7) (2)) w):=bH (qW _) kF
theorem vB {w:World}:CP 251 #[] w (Ret (kh (pam) (7) (2)) w):=bH (ql _) sy
theorem D9 {v1 v2:Value} {p1 p2:Rat} {k1 i1 k2 i2:Nat} {w:World} (x1:Rh p1 k1 i1 w v1) (x2:Rh p2 k2 i2 w v2) (a1:k1<=1000:=by omega) (b1:1<=k1:=by omega) (c1:i1<=100:=by omega) (a2:k2<=100:=by omega) (b2:1<=k2:=by omega) (c2:i2<=100:=by omega):CP 240 #[v1,v2] w (Ret (kh (mof (p1) (p2)) ((k1+k2+i1+i2+30)) ((i1+i2+5))) w):=bH (JO _ _ (p1) (p2) k1 k2 i1 i2 _ x1.1 x2.1 x1.2 x2.2 (by omega) (by omega) (by omega) (by omega) (by omega) (by omega)) (kY x1.2 x2.2)
theorem wQ (v1:Value) (q1:Rat) (k:Nat) (w:World) (h1:Rr w v1 q1 k) (hp:1<=k) (hk:k<=4990) (hf0:0<=Rat.floor q1) (hf1:Rat.floor q1<65536):
 CV 164 #[v1] w (iv (Rat.floor q1)):=by
 have rl1:=h1.rlim
 obtain⟨r1,rfl⟩:=h1.fo
 refine gs1 (nt:=6) Tryz.func164 rfl rfl rfl fun a st hF=>wq<|bx st hF 0 rfl rfl fun g1 w1 a st hF=>?_
 refine oC hF rfl fun a hF=>nq<|oL hF st 1 0 ag rfl rfl rfl rfl fun a hF=>S.ck st hF (rgc C7 (aG hF.o)) (cP (kl _ (q1) k _ (h1.below st.bel) (by omega) (by omega)) (gH rl1)) Zl.cl rfl fun vv3 w2 a st hF=>?_
 obtain⟨b5,ad5,n5,c5,rfl⟩:=Rz.form (st.f 0 rfl).1
 refine cX st hF (rgc Si (aG hF.o)) (Du _ (Rat.floor (q1)) _ (st.f 0 rfl).1 hf0 hf1) rfl fun w6 a st hF=>?_
 refine oE hF 0 rfl rfl fun a hF=>nr ?_
 have bel:=st.bel
 refine rt Tryz.results164 hF 0 rfl ?_
 exact⟨rfl,bel⟩
theorem li (v1:Value) (q1:Rat) (k i:Nat) (w:World) (h1:Rr w v1 q1 k) (li1:av q1 i) (hp:1<=k) (hk:k<=3000) (hi:i<=800):
 CV 273 #[v1] w (iv (pk q1)):=by
 obtain⟨r1,rfl⟩:=h1.fo
 refine gs1 (nt:=9) Tryz.func273 rfl rfl rfl fun a st hF=>wq<|bx st hF 0 rfl rfl fun g1 w1 a st hF=>?_
 refine oC hF rfl fun a hF=>ns ?_
 refine E.rg 6 aM hF [3,4,5,6,7,8] [_,_,_,_,_,_] (by decide+kernel) rfl rfl rfl ⟨rb st ag 1 0 rfl,ck st bM rfl fun _ s=>dS,ck st dA rfl fun _ s _ x4=>cR ⟨(h1.below s.bel),li1⟩ x4,ck st bM rfl fun _ s=>eE,ck st vQ rfl fun _ s _ x5 _ x6=>KM x5 x6,ck st CX rfl fun _ s _ x7=>bD (wQ _ (rmod ((q1)*(((4:Int):Rat)/((15:Int):Rat))) (((96:Int):Rat))) ((k+2)+2+(i+2)+2+3) _ x7.1 (by omega) (by omega) (by rw[tS];exact(lj q1).1) (by rw[tS];have:=(lj q1).2;omega)),trivial⟩ ?_
 intro a w2 hF bb hall
 replace st:=st.to bb
 replace hF:=rE hall hF 5 rfl rfl
 clear hall bb
 refine oE hF 0 rfl rfl fun a hF=>nr ?_
 have bel:=st.bel
 refine rt Tryz.results273 hF 0 rfl ?_
 exact⟨ch (tS q1),bel⟩
theorem uo (v1:Value) (q1:Rat) (k i:Nat) (w:World) (h1:Rr w v1 q1 k) (li1:av q1 i) (hp:1<=k) (hk:k<=3000) (hi:i<=800):
 CV 244 #[v1] w (iv (spk (pk q1+1)-spk (pk q1))):=by
 obtain⟨r1,rfl⟩:=h1.fo
 have hpk:=lj q1
 have hsa:=lZ (pk q1)
 have hsb:=lZ (pk q1+1)
 refine gs1 (nt:=11) Tryz.func244 rfl rfl rfl fun a st hF=>wq<|bx st hF 0 rfl rfl fun g1 w1 a st hF=>?_
 refine oC hF rfl fun a hF=>ns ?_
 refine E.rg 8 aM hF [3,4,5,6,7,8,9,10] [_,_,.ex (iv ((pk (q1))+1)),_,_,_,_,.ex (iv ((spk ((pk (q1))+1))-(spk (pk (q1)))))] (by decide+kernel) rfl rfl rfl ⟨rb st ag 1 0 rfl,ck st C2 rfl fun _ s=>bD (li _ (q1) k i _ (h1.below s.bel) li1 (by omega) (by omega) (by omega)),(by intro a' w' hF' hb hd;have e4:=tE hd 0 rfl;have hpk:=lj (q1);exact dv0 (aq e4 ao aa (aX (by omega) (by omega))) rfl rfl rfl),ck st Iy rfl fun _ s=>bD (rx ((pk (q1))+1) _),rb st ag 1 0 rfl,ck st C2 rfl fun _ s=>bD (li _ (q1) k i _ (h1.below s.bel) li1 (by omega) (by omega) (by omega)),ck st Iy rfl fun _ s=>bD (rx (pk (q1)) _),(by intro a' w' hF' hb hd;have e6:=tE hd 0 rfl;have e9:=tE hd 1 rfl;exact dv0 (aq e6 e9 aa (bB (by omega) (by omega))) rfl rfl rfl),trivial⟩ ?_
 intro a w2 hF bb hall
 replace st:=st.to bb
 replace hF:=rE hall hF 7 rfl rfl
 clear hall bb
 refine oE hF 0 rfl rfl fun a hF=>nr ?_
 have bel:=st.bel
 refine rt Tryz.results244 hF 0 rfl ?_
 exact⟨rfl,bel⟩
theorem F0 (v1:Value) (q1:Rat) (k i:Nat) (w:World) (h1:Rr w v1 q1 k) (li1:av q1 i) (hp:1<=k) (hk:k<=3000) (hi:i<=800):
 CP 243 #[v1] w (cf w (sof q1) (k+i+40)):=by
 obtain⟨r1,rfl⟩:=h1.fo
 have hpk:=lj q1
 refine gs1 (nt:=27) Tryz.func243 rfl rfl rfl fun a st hF=>wq<|bx st hF 0 rfl rfl fun g1 w1 a st hF=>S.alloc st hF ag rfl rfl fun g2 w2 a st hF=>ns<|gz1 6 aM st hF ag [5,6,7,8,9,3] [_,_,_,_,_,_] (by decide+kernel) rfl rfl rfl ⟨rb st ag 1 1 rfl,ck st bM rfl fun _ s=>dS,ck st dA rfl fun _ s _ x6=>cR ⟨(h1.below s.bel),li1⟩ x6,ck st bM rfl fun _ s=>eE,ck st vQ rfl fun _ s _ x7 _ x8=>KM x7 x8,ra ag rfl rfl,trivial⟩ fun r6 g3 w7 a st hF=>?_
 refine ns<|gz1 6 aM st hF ag [10,11,12,13,14,4] [_,_,_,_,_,_] (by decide+kernel) rfl rfl rfl ⟨rb st ag 0 0 rfl,rb st ag 3 2 rfl,ck st C2 rfl fun _ s=>bD (li _ (q1) k i _ (h1.below s.bel) li1 (by omega) (by omega) (by omega)),ck st bM rfl fun _ s=>eE,ck st ij rfl fun _ s _ x13=>fU (s.f 0 rfl) x13,ra ag rfl rfl,trivial⟩ fun r11 g4 w12 a st hF=>ns<|gz2 12 aM st hF ag 2 4 [15,16,17,18,19,20,21,22,23,24,25,26] [_,_,_,_,_,_,_,_,_,_,_,_] (by decide+kernel) rfl rfl rfl ⟨rb st ag 5 3 rfl,ck st C2 rfl fun _ s=>bD (li _ (q1) k i _ (h1.below s.bel) li1 (by omega) (by omega) (by omega)),ck st Iy rfl fun _ s=>bD (rx (pk (q1)) _),ck st bM rfl fun _ s=>bH (gZ (spk (pk (q1))) _ (by have:=nW (pk (q1));omega) (by have:=nW (pk (q1));omega)) (eC (dC (pk (q1))).1 (dC (pk (q1))).2),rb st ag 0 0 rfl,rb st ag 5 3 rfl,ck st Pu rfl fun _ s=>bD (uo _ (q1) k i _ (h1.below s.bel) li1 (by omega) (by omega) (by omega)),ck st bM rfl fun _ s=>bH (gZ (spk (pk (q1)+1)-spk (pk (q1))) _ (by have:=zS (pk (q1));omega) (by have:=zS (pk (q1));omega)) (eC (fk (pk (q1))).1 (fk (pk (q1))).2),ck st dA rfl fun _ s _ x22=>cR (s.f 0 rfl) x22,ck st nE rfl fun _ s _ x18 _ x23=>lV x18 x23,ck st bM rfl fun _ s=>dS,ck st dA rfl fun _ s _ x24 _ x25=>cR x24 x25,trivial⟩ fun r16 w17 a st hF=>?_
 refine nr<|rs Tryz.results243 st hF 5 2 ag rfl rfl rfl ?_
 exact⟨_,rfl,Rr.cast (Rr.up (st.f 0 rfl).1 _ (by omega)) (Mw q1),st.bel⟩
theorem wY (v1:Value) (q1:Rat) (k:Nat) (w:World) (h1:Rr w v1 q1 k) (hp:1<=k) (hk:k<=6000) (hx:¬q1<0):
 CP 276 #[v1] w (cf w (bF q1) (k+20)):=by
 have rl1:=h1.rlim
 obtain⟨r1,rfl⟩:=h1.fo
 refine gs1 (nt:=44) Tryz.func276 rfl rfl rfl fun a st hF=>wq<|bx st hF 0 rfl rfl fun g1 w1 a st hF=>S.alloc st hF ag rfl rfl fun g2 w2 a st hF=>ns<|gz1 4 aM st hF ag [6,7,8,3] [_,_,_,_] (by decide+kernel) rfl rfl rfl ⟨rb st ag 1 1 rfl,ck st bM rfl fun _ s=>eE,ck st dA rfl fun _ s _ x7=>cR ⟨(h1.below s.bel),rl1⟩ x7,ra ag rfl rfl,trivial⟩ fun r6 g3 w7 a st hF=>nq ?_
 refine oC hF rfl fun a hF=>ns<|wp_block ?_
 refine E.loop (fun mq a wv=>∃(j:Nat),j<=24/\ykf (q1*((3438:Int):Rat)) (24-j) j=yk (q1*((3438:Int):Rat))/\Fr 44 a [(4,iv ((j:Nat):Int)),(3,.pointer (some ⟨g3,0,none⟩)),(2,.pointer (some ⟨g2,0,none⟩))]/\St w wv [(g3,r6.l),(g2,[.bool false,.slice none 0 0,.slice none 0 0])] [fun w=>Rh ((q1)*(((3438:Int):Rat))) ((k+2)) ((k+2)) w (r6.v)]/\mq=24-j) (24-0) ?_ ?_
 ·exact⟨0,(by omega),rfl,Fr.pick (L':=[(4,iv 0),(3,.pointer (some ⟨g3,0,none⟩)),(2,.pointer (some ⟨g2,0,none⟩))]) hF [0,1,3] rfl,st.pick [0,1] [0] rfl rfl (by decide),rfl⟩
 ·rintro mq a w8 ⟨j,hj,hyk,hF,st,hm⟩
  have hsa:=zS ((j:Nat):Int)
  refine wp_seq<|wp_seq ?_
  by_cases hc9:((j:Nat):Int)<24
  ·refine E.rg 8 aM hF [9,10,11,12,13,14,15,16] [_,.ex (.bool true),.ex (.bool true),.ex (r6.v),.ex (iv ((j:Nat):Int)),.ex (iv (((j:Nat):Int)+1)),.ex (iv (spk (((j:Nat):Int)+1))),.of (fun w v=>Rh (((spk (((j:Nat):Int)+1):Int):Rat)) (2) (2) w v) (Rh.mb _ _ _)] (by decide+kernel) rfl rfl rfl ⟨rm 0 rfl,(by intro a' w' hF' hb hd;have e9:=tE hd 0 rfl;exact dv0 (aq e9 ao aa (aO (aY (c:=true) (aI hc9)) (by simp))) rfl rfl rfl),(by intro a' w' hF' hb hd;have e10:=tE hd 0 rfl;exact dv0 (aD e10) rfl rfl rfl),(by intro a' w' hF' hb hd;have e11:=tE hd 0 rfl;exact dv1 (au rfl rfl e11 rfl) (ar (hF'.at 1 rfl) (bK ag ((st.bk 0 rfl).below hb) rfl)) rfl rfl),(by intro a' w' hF' hb hd;have e11:=tE hd 0 rfl;exact dv1 (au rfl rfl e11 rfl) (aD (hF'.at 0 rfl)) rfl rfl),(by intro a' w' hF' hb hd;have e11:=tE hd 1 rfl;have e13:=tE hd 0 rfl;exact dv1 (au rfl rfl e11 rfl) (aq e13 ao aa (aX (by omega) (by omega))) rfl rfl),(by intro a' w' hF' hb hd;have e11:=tE hd 1 rfl;have e14:=tE hd 0 rfl;exact JV (au rfl rfl e11 rfl) (rk Dk (aG e14)) (pH (((j:Nat):Int)+1) _ (by omega) (by omega)) (fun _=>rfl) rfl),(by intro a' w' hF' hb hd;have e11:=tE hd 2 rfl;have e15:=tE hd 0 rfl;exact dc1 (au rfl rfl e11 rfl) (rk xP (aL e15 ao)) (bH (gZ (spk (((j:Nat):Int)+1)) _ (by have:=nW (((j:Nat):Int)+1);omega) (by have:=nW (((j:Nat):Int)+1);omega)) (eC (dC (((j:Nat):Int)+1)).1 (dC (((j:Nat):Int)+1)).2)) rfl),trivial⟩ ?_
   intro a w10 hF bb hall
   replace st:=st.to bb
   replace hF:=rE hall hF 2 rfl rfl
   replace hF:=rE hall hF 3 rfl rfl
   obtain⟨vv11,hF,st⟩:=rS hall hF st 7 rfl rfl Rh.cl
   obtain⟨r13,rfl⟩:=Rr.fo (st.f 0 rfl).1
   clear hall bb
   refine S.callxg st hF (au rfl rfl hF.q rfl) (rgc PA (aL hF.p hF.o)) (nv _ _ _ _ (k+2) 2 _ (st.f 1 rfl).1 (st.f 0 rfl).1 (by omega) (by omega)) rfl rfl rfl fun w14 a st hF=>?_
   by_cases hc15:0<qc ((q1)*(((3438:Int):Rat))) (((spk (((j:Nat):Int)+1):Int):Rat))
   ·refine og hF (aq hF.o ao aa (aO (bT (c:=true) (aI hc15)) (by simp))) 3 rfl rfl rfl fun a hF=>oV hF (aK (hF.at 4 rfl) hF.o) rfl fun a hF=>E.nil<|wp_cond_true hF.o<|wp_skip<|E.norm<|wp_block<|E.seq<|oM hF 6 rfl rfl fun a hF=>oV hF (aq hF.o ao aa (aX (by omega) (by omega))) rfl fun a hF=>oE hF 0 rfl rfl fun a hF=>E.nil0 ?_
    refine E.blk<|E.norm ?_
    exact⟨24-(j+1),by omega,⟨(j+1),(by omega),(CH (by omega) hyk hc15),(by rw[show((j+1:Nat):Int)=((j:Nat):Int)+1 from by omega];exact Fr.pick (L':=[(4,iv (((j:Nat):Int)+1)),(3,.pointer (some ⟨g3,0,none⟩)),(2,.pointer (some ⟨g2,0,none⟩))]) hF [0,9,10] rfl),st.pick [0,1] [1] rfl rfl (by decide),rfl⟩⟩
   ·refine og hF (aq hF.o ao aa (aO (bT (c:=false) (aJ hc15)) (by simp))) 3 rfl rfl rfl fun a hF=>oV hF (aK (hF.at 4 rfl) hF.o) rfl fun a hF=>E.nil<|wp_cond_false hF.o<|wp_exit<|E.past<|E.past<|E.out (id:=0)<|E.norm<|wp_seq<|wq<|oM hF 6 rfl rfl fun a hF=>?_
    by_cases hc16:((j:Nat):Int)=24
    ·(exfalso;omega)
    ·refine oT hF 0 (aV (c:=false) (aJ hc16)) rfl rfl fun a hF=>E.nil<|wp_cond_false hF.o<|wp_skip<|E.norm<|wp_seq<|gz1 14 aM st hF ag [25,26,27,28,29,30,31,32,33,34,35,36,37,5] [_,_,_,_,_,_,.ex (iv (((j:Nat):Int)+1)),_,_,_,.ex (iv ((spk (((j:Nat):Int)+1))-(spk ((j:Nat):Int)))),_,_,_] (by decide+kernel) rfl rfl rfl ⟨rb st ag 9 0 rfl,rm 8 rfl,ck st H0 rfl fun _ s=>bD (pH ((j:Nat):Int) _ (by omega) (by omega)),ck st bM rfl fun _ s=>bH (gZ (spk ((j:Nat):Int)) _ (by have:=nW ((j:Nat):Int);omega) (by have:=nW ((j:Nat):Int);omega)) (eC (dC ((j:Nat):Int)).1 (dC ((j:Nat):Int)).2),ck st ij rfl fun _ s _ x28=>fU (s.f 1 rfl) x28,rm 8 rfl,(by intro a' w' hF' hb hd;have e30:=tE hd 0 rfl;exact dv0 (aq e30 ao aa (aX (by omega) (by omega))) rfl rfl rfl),ck st H0 rfl fun _ s=>bD (pH (((j:Nat):Int)+1) _ (by omega) (by omega)),rm 8 rfl,ck st H0 rfl fun _ s=>bD (pH ((j:Nat):Int) _ (by omega) (by omega)),(by intro a' w' hF' hb hd;have e32:=tE hd 0 rfl;have e34:=tE hd 1 rfl;exact dv0 (aq e32 e34 aa (bB (by omega) (by omega))) rfl rfl rfl),ck st bM rfl fun _ s=>bH (gZ ((spk (((j:Nat):Int)+1))-(spk ((j:Nat):Int))) _ (by omega) (by omega)) (eC (by omega) (by omega)),ck st wi rfl fun _ s _ x29 _ x36=>ur x29 x36,ra ag rfl rfl,trivial⟩ fun r25 g5 w26 a st hF=>?_
     refine ns<|gz2 6 aM st hF ag 2 12 [38,39,40,41,42,43] [_,_,_,_,_,_] (by decide+kernel) rfl rfl rfl ⟨rm 10 rfl,ck st bM rfl fun _ s=>eE,rb st ag 0 0 rfl,ck st nE rfl fun _ s _ x39=>lV x39 (s.f 0 rfl),ck st bM rfl fun _ s=>dS,ck st dA rfl fun _ s _ x41 _ x42=>cR x41 x42,trivial⟩ fun r30 w31 a st hF=>nr<|rs Tryz.results276 st hF 13 2 ag rfl rfl rfl ?_
     exact⟨_,rfl,Rr.cast (Rr.up (st.f 0 rfl).1 _ (by omega)) (Fw hx (by omega) (CE (by omega) hyk hc15)),st.bel⟩
  ·refine E.rg 8 aM hF [9,10,11,12,13,14,15,16] [_,.ex (.bool false),.ex (.bool false),.ex undef,.ex undef,.ex undef,.ex undef,.ex undef] (by decide+kernel) rfl rfl rfl ⟨rm 0 rfl,(by intro a' w' hF' hb hd;have e9:=tE hd 0 rfl;exact dv0 (aq e9 ao aa (aO (aY (c:=false) (aJ hc9)) (by simp))) rfl rfl rfl),(by intro a' w' hF' hb hd;have e10:=tE hd 0 rfl;exact dv0 (aD e10) rfl rfl rfl),(by intro a' w' hF' hb hd;have e11:=tE hd 0 rfl;exact bA (au rfl rfl e11 rfl) ⟨rfl,by decide⟩),(by intro a' w' hF' hb hd;have e11:=tE hd 0 rfl;exact bA (au rfl rfl e11 rfl) ⟨rfl,by decide⟩),(by intro a' w' hF' hb hd;have e11:=tE hd 1 rfl;exact bA (au rfl rfl e11 rfl) ⟨rfl,by decide⟩),(by intro a' w' hF' hb hd;have e11:=tE hd 1 rfl;exact bA (au rfl rfl e11 rfl) ⟨rfl,by decide⟩),(by intro a' w' hF' hb hd;have e11:=tE hd 2 rfl;exact bA (au rfl rfl e11 rfl) ⟨rfl,by decide⟩),trivial⟩ ?_
   intro a w32 hF bb hall
   replace st:=st.to bb
   replace hF:=rE hall hF 2 rfl rfl
   replace hF:=rE hall hF 3 rfl rfl
   replace hF:=rE hall hF 7 rfl rfl
   clear hall bb
   refine nu hF 2 rfl rfl rfl fun a hF=>nu hF 3 rfl rfl rfl fun a hF=>oV hF (aQ (hF.at 4 rfl) ao) rfl fun a hF=>E.nil<|wp_cond_false hF.o<|wp_exit<|E.past<|E.past<|E.out (id:=0)<|E.norm<|wp_seq<|wq<|oM hF 6 rfl rfl fun a hF=>?_
   by_cases hc33:((j:Nat):Int)=24
   ·refine oT hF 0 (aV (c:=true) (aI hc33)) rfl rfl fun a hF=>E.nil<|wp_cond_true hF.o<|wq<|S.ck st hF (rgc bM (aL ao ao)) eE Rh.cl rfl fun vv35 w34 a st hF=>?_
    obtain⟨r37,rfl⟩:=Rr.fo (st.f 0 rfl).1
    refine so st hF 1 11 0 ag rfl rfl rfl rfl fun w38 a st hF=>nr<|rs Tryz.results276 st hF 11 1 ag rfl rfl rfl ?_
    have bel:=st.bel
    have e24:j=24:=by omega
    subst e24
    exact⟨_,rfl,Rr.cast (Rr.up (st.f 0 rfl).1 _ (by omega)) (BH hx hyk.symm),bel⟩
   ·(exfalso;omega)
theorem Fj (v1:Value) (q1:Rat) (k:Nat) (w:World) (h1:Rr w v1 q1 k) (hp:1<=k) (hk:k<=6000):
 CP 248 #[v1] w (cf w (bF q1) (k+20)):=by
 have rl1:=h1.rlim
 obtain⟨b1,ad1,n1,c1,ae1,m1,d1,z1,D1,rfl,hn1,hd1,hD1,hq1,lz1,lD1⟩:=h1.shape
 have ha1:=hn1.abs
 have hb1:=hn1.neg
 replace hq1:=Lib.hid hq1
 by_cases hn:sz (Rat.num (q1))<0
 ·have hx:q1<0:=oB.1 hn
  refine gs1 (nt:=12) Tryz.func248 rfl rfl rfl fun a st hF=>wq<|bx st hF 0 rfl rfl fun g1 w1 a st hF=>S.alloc st hF ag rfl rfl fun g2 w2 a st hF=>ns<|wq<|oL hF st 1 1 ag rfl rfl rfl rfl fun a hF=>cX st hF (rgc qD (aG hF.o)) (iZ _ (q1) k _ (h1.below st.bel)) rfl fun w3 a st hF=>oT hF 0 (aY (c:=true) (aI hn)) rfl rfl fun a hF=>?_
  refine E.nil<|wp_cond_true hF.o<|wq<|oL hF st 4 1 ag rfl rfl rfl rfl fun a hF=>S.ck st hF (rgc yM (aG hF.o)) (bH (mH _ (q1) k _ (h1.below st.bel)) (gF rl1)) Rh.cl rfl fun vv5 w4 a st hF=>?_
  obtain⟨r7,rfl⟩:=Rr.fo (st.f 0 rfl).1
  refine ca st hF (rgc Pb (aG hF.o)) (wY _ (-(q1)) k _ (st.f 0 rfl).1 (by omega) (by omega) (fun e=>Ck hx (oB.2 e))) (fun _ _ h=>h) Rr.cl rfl fun vv9 w8 a st hF=>?_
  obtain⟨r11,rfl⟩:=Rr.fo (st.f 0 rfl)
  refine ca st hF (rgc yM (aG hF.o)) (mH _ _ (k+20) _ (st.f 0 rfl)) (fun _ _ h=>h) Rr.cl rfl fun vv13 w12 a st hF=>?_
  obtain⟨r15,rfl⟩:=Rr.fo (st.f 0 rfl)
  refine so st hF 0 7 0 ag rfl rfl rfl rfl fun w16 a st hF=>nr<|rs Tryz.results248 st hF 7 0 ag rfl rfl rfl ?_
  exact⟨_,rfl,Rr.cast (Rr.up (st.f 0 rfl) _ (by omega)) (rP hx),st.bel⟩
 ·have hx:¬q1<0:=fun e=>hn (oB.2 e)
  refine gs1 (nt:=12) Tryz.func248 rfl rfl rfl fun a st hF=>wq<|bx st hF 0 rfl rfl fun g1 w1 a st hF=>S.alloc st hF ag rfl rfl fun g2 w2 a st hF=>ns<|wq<|oL hF st 1 1 ag rfl rfl rfl rfl fun a hF=>cX st hF (rgc qD (aG hF.o)) (iZ _ (q1) k _ (h1.below st.bel)) rfl fun w3 a st hF=>oT hF 0 (aY (c:=false) (aJ hn)) rfl rfl fun a hF=>?_
  refine E.nil<|wp_cond_false hF.o<|wp_skip<|E.norm<|wq<|oL hF st 4 1 ag rfl rfl rfl rfl fun a hF=>?_
  refine ca st hF (rgc Pb (aG hF.o)) (wY _ (q1) k _ (h1.below st.bel) (by omega) (by omega) hx) (fun _ _ h=>h) Rr.cl rfl fun vv5 w4 a st hF=>?_
  obtain⟨r7,rfl⟩:=Rr.fo (st.f 0 rfl)
  refine so st hF 0 5 0 ag rfl rfl rfl rfl fun w8 a st hF=>nr<|rs Tryz.results248 st hF 5 0 ag rfl rfl rfl ?_
  exact⟨_,rfl,Rr.cast (Rr.up (st.f 0 rfl) _ (by omega)) rfl,st.bel⟩
end Go.Proofs.YtgdpkknapcgcbaaGreatDoor
