import Derived.Test.YtgdpkknapcgcbaaGreatDoorKC21
namespace Go.Proofs.YtgdpkknapcgcbaaGreatDoor
open Go.RowKit
set_option maxRecDepth 100000
set_option linter.unusedVariables false
set_option maxHeartbeats 8000000
theorem Ie (n:Int):((n:Int):Rat)/((1:Int):Rat)=((n:Int):Rat):=Fn n
theorem gZ (n:Int) (w:World) (b1: -9223372036854775808<n) (b2:n<=9223372036854775807):CP 143 #[iv n,iv 1] w (cf w ((n:Int):Rat) 2):=by
 have:=rL n 1 w b1 b2 (by decide) (by decide)
 rwa[Ie] at this
theorem ro (v1 v2:Value) (q1 q2:Rat) (k j:Nat) (w:World) (h1:Rr w v1 q1 k) (h2:Rr w v2 q2 j) (hp:1<=k) (hp2:1<=j) (hk:k<=10000) (hj:j<=10000):
 CP 201 #[v1,v2] w (cf w (q1+q2) (k+j+1)):=by
 obtain⟨b1,ad1,n1,c1,ae1,m1,d1,z1,D1,rfl,hn1,hd1,hD1,hq1,lz1,lD1⟩:=h1.shape
 have ha1:=hn1.abs
 have hb1:=hn1.neg
 replace hq1:=Lib.hid hq1
 obtain⟨b2,ad2,n2,c2,ae2,m2,d2,z2,D2,rfl,hn2,hd2,hD2,hq2,lz2,lD2⟩:=h2.shape
 have ha2:=hn2.abs
 have hb2:=hn2.neg
 replace hq2:=Lib.hid hq2
 refine gs2 (nt:=26) Tryz.func201 rfl rfl rfl fun a st hF=>wq<|bx st hF 0 rfl rfl fun g2 w1 a st hF=>bx st hF 2 rfl rfl fun g3 w2 a st hF=>S.alloc st hF ag rfl rfl fun g4 w3 a st hF=>ns ?_
 refine E.drawn2 9 aM hF [some 7,some 8,some 9,some 10,some 11,some 12,some 5,some 6,none] [(fun _ v=>v= .pointer (some ⟨g2,2,none⟩)),(fun _ v=>v= .slice ae1 m1 d1),(fun _ v=>v= .agg #[.bool false,.slice ae1 m1 d1]),(fun _ v=>v= .pointer (some ⟨g3,2,none⟩)),(fun _ v=>v= .slice ae2 m2 d2),(fun _ v=>v= .agg #[.bool false,.slice ae2 m2 d2]),(fun _ _=>True),(fun _ _=>True),(fun _ _=>True)] [6,7] [⟨8,6,2⟩] [[],[],[],[],[],[],[.bool false,.slice none 0 0],[.bool false,.slice none 0 0],[]] (by decide+kernel) (by decide+kernel) rfl rfl rfl (by decide+kernel) (by decide+kernel) ⟨(Mk.eq _),(Mk.eq _),(Mk.eq _),(Mk.eq _),(Mk.eq _),(Mk.eq _),Mk.any,Mk.any,Mk.any,trivial⟩ ⟨?_,?_,?_,?_,?_,?_,?_,?_,?_,trivial⟩ ?_
 ·refine cV rfl ?_
  intro a' w' hF' hb hd
  exact dw0 (az (hF'.at 2 rfl) (fE (p:=2) rfl)) rfl rfl rfl
 ·refine cV rfl ?_
  intro a' w' hF' hb hd
  have e7:=wj hd 0 7 rfl rfl rfl rfl rfl
  exact dw0 (ar e7 (cB (v:= .slice ae1 m1 d1) ((st.b 2 rfl rfl).below hb) rfl)) rfl rfl rfl
 ·refine cV rfl ?_
  intro a' w' hF' hb hd
  have e8:=wj hd 0 8 rfl rfl rfl rfl rfl
  exact dw0 (bn (eQ e8) (hC _ _ _ _)) rfl rfl rfl
 ·refine cV rfl ?_
  intro a' w' hF' hb hd
  exact dw0 (az (hF'.at 1 rfl) (fE (p:=2) rfl)) rfl rfl rfl
 ·refine cV rfl ?_
  intro a' w' hF' hb hd
  have e10:=wj hd 0 10 rfl rfl rfl rfl rfl
  exact dw0 (ar e10 (cB (v:= .slice ae2 m2 d2) ((st.b 1 rfl rfl).below hb) rfl)) rfl rfl rfl
 ·refine cV rfl ?_
  intro a' w' hF' hb hd
  have e11:=wj hd 0 11 rfl rfl rfl rfl rfl
  exact dw0 (bn (eQ e11) (hC _ _ _ _)) rfl rfl rfl
 ·refine cV rfl ?_
  intro a' w' hF' hb hd
  obtain⟨g,w2,ge,hr,bb,on⟩:=eo (P:=Tryz.prog) (w:=w') (cs:=[.bool false,.slice none 0 0]) 43 nS rfl (niB (niS ni0))
  subst ge
  exact bX (aR rfl) (bG.vals (dP hr) ⟨(fun h=>absurd h (by decide)),bb,fun _=>⟨rfl,on⟩⟩)
 ·refine cV rfl ?_
  intro a' w' hF' hb hd
  obtain⟨g,w2,ge,hr,bb,on⟩:=eo (P:=Tryz.prog) (w:=w') (cs:=[.bool false,.slice none 0 0]) 43 nS rfl (niB (niS ni0))
  subst ge
  exact bX (aR rfl) (bG.vals (dP hr) ⟨(fun h=>absurd h (by decide)),bb,fun _=>⟨rfl,on⟩⟩)
 ·exact wT ⟨⟨8,6,2⟩,by simp,rfl⟩ (b:=6) (v:=2) rfl rfl rfl rfl rfl rfl oP rfl (by decide) (by decide) (fun _ _ h=>⟨[.bool false,.slice ae1 m1 d1],by rw[h];rfl,rfl,(niB (niS ni0)),(ocB (ocS oc0))⟩)
 intro a w4 hF bb hall hblk hne
 have s0:=st
 replace st:=st.to bb
 have e9:=OL hall 2 9 rfl rfl rfl
 have e12:=OL hall 5 12 rfl rfl rfl
 obtain⟨g5,cs5,e5,ge5,o5,hc5⟩:=hblk 6 5 (by decide) rfl
 have hc5:=(hc5.2 ⟨8,6,2⟩ (by simp) rfl).2 rfl 9 rfl
 rw[e9] at hc5
 obtain rfl:cs5=[.bool false,.slice ae1 m1 d1]:=by have hx:=congrArg Array.toList hc5;exact hx.symm
 clear hc5
 replace st:=st.push o5.blk (Nat.le_trans s0.bel.size ge5) (s0.ne ge5)
 clear o5
 obtain⟨g6,cs6,e6,ge6,o6,hc6⟩:=hblk 7 6 (by decide) rfl
 obtain rfl:cs6=[.bool false,.slice none 0 0]:=hc6.1 (sX rfl)
 clear hc6
 replace st:=st.push o6.blk (Nat.le_trans s0.bel.size ge6) (sd (fun(e:g5=g6)=>hne 6 7 5 6 (by decide) (by decide) (by decide) rfl rfl (by rw[e5,e6,e])) (s0.ne ge6))
 clear o6
 clear hall hblk hne bb s0
 clear e9
 replace hF:=hF.add e12
 clear e12
 replace hF:=hF.add e5
 clear e5
 replace hF:=hF.add e6
 clear e6
 refine so st hF 0 0 2 bg rfl rfl rfl rfl fun w5 a st hF=>ns ?_
 refine E.drawn 13 aM hF [13,14,15,16,17,18,19,20,21,22,23,24,25] [(fun _ v=>v= .pointer (some ⟨g2,0,none⟩)),(fun _ v=>v= .agg #[.bool b1,.slice ad1 n1 c1]),(fun _ v=>v= .agg #[.bool false,.slice ae2 m2 d2]),(fun w v=>Rz w v (z1*(((D2:Nat):Int)))),(fun _ v=>v= .pointer (some ⟨g3,0,none⟩)),(fun _ v=>v= .agg #[.bool b2,.slice ad2 n2 c2]),(fun _ v=>v= .agg #[.bool false,.slice ae1 m1 d1]),(fun w v=>Rz w v (z2*(((D1:Nat):Int)))),(fun w v=>Rz w v ((z1*(((D2:Nat):Int)))+(z2*(((D1:Nat):Int))))),(fun _ v=>v= .agg #[.bool false,.slice ae1 m1 d1]),(fun _ v=>v= .agg #[.bool false,.slice ae2 m2 d2]),(fun w v=>Rz w v ((((D1:Nat):Int))*(((D2:Nat):Int)))),(fun w v=>Rr w v ((((z1*(((D2:Nat):Int)))+(z2*(((D1:Nat):Int))):Int):Rat)/(((((D1:Nat):Int))*(((D2:Nat):Int)):Int):Rat)) ((max ((max (k+j) (j+k))+1) (k+j))))] [] (by decide+kernel) (by decide+kernel) rfl rfl rfl ⟨(Mb.eq _),(Mb.eq _),(Mb.eq _),(fun _ _ _ h hb=>h.below hb),(Mb.eq _),(Mb.eq _),(Mb.eq _),(fun _ _ _ h hb=>h.below hb),(fun _ _ _ h hb=>h.below hb),(Mb.eq _),(Mb.eq _),(fun _ _ _ h hb=>h.below hb),(fun _ _ _ h hb=>h.below hb),trivial⟩ trivial ⟨?_,?_,?_,?_,?_,?_,?_,?_,?_,?_,?_,?_,?_,trivial⟩ ?_
 ·intro a' w' hF' hb hd
  exact dv0 (az (hF'.at 5 rfl) (fi (p:=0) rfl)) rfl rfl rfl
 ·intro a' w' hF' hb hd
  have e13:=tE hd 0 rfl
  exact dv0 (ar e13 (gQ (vs:=[.bool b1,.slice ad1 n1 c1]) ((st.b 4 rfl rfl).below hb) rfl rfl)) rfl rfl rfl
 ·exact qL st 0 0 bg rfl rfl rfl rfl rfl
 ·intro a' w' hF' hb hd
  have e14:=tE hd 0 rfl
  have e15:=tE hd 1 rfl
  exact dc0 (rk Hi (aL e14 e15)) (fu _ _ _ _ k j _ (hn1.below (aF st.bel hb)) (Rz.nat (hd2.below (aF st.bel hb))) lz1 (cY lD2) (by omega) (by omega)) rfl rfl
 ·intro a' w' hF' hb hd
  exact dv0 (az (hF'.at 4 rfl) (fi (p:=0) rfl)) rfl rfl rfl
 ·intro a' w' hF' hb hd
  have e17:=tE hd 0 rfl
  exact dv0 (ar e17 (gQ (vs:=[.bool b2,.slice ad2 n2 c2]) ((st.b 3 rfl rfl).below hb) rfl rfl)) rfl rfl rfl
 ·exact qL st 1 1 bg rfl rfl rfl rfl rfl
 ·intro a' w' hF' hb hd
  have e18:=tE hd 0 rfl
  have e19:=tE hd 1 rfl
  exact dc0 (rk Hi (aL e18 e19)) (fu _ _ _ _ j k _ (hn2.below (aF st.bel hb)) (Rz.nat (hd1.below (aF st.bel hb))) lz2 (cY lD1) (by omega) (by omega)) rfl rfl
 ·intro a' w' hF' hb hd
  obtain⟨v16_0,e16,h16_1⟩:=tH hd 0 rfl
  obtain⟨v20_0,e20,h20_1⟩:=tH hd 1 rfl
  exact dc0 (rk QT (aL e16 e20)) (iP _ _ _ _ (k+j) (j+k) _ h16_1 h20_1 (df lz1 (cY lD2)) (df lz2 (cY lD1)) (by omega) (by omega)) rfl rfl
 ·exact qL st 1 1 bg rfl rfl rfl rfl rfl
 ·exact qL st 0 0 bg rfl rfl rfl rfl rfl
 ·intro a' w' hF' hb hd
  have e22:=tE hd 0 rfl
  have e23:=tE hd 1 rfl
  exact dc0 (rk Hi (aL e22 e23)) (fu _ _ _ _ k j _ (Rz.nat (hd1.below (aF st.bel hb))) (Rz.nat (hd2.below (aF st.bel hb))) (cY lD1) (cY lD2) (by omega) (by omega)) rfl rfl
 ·intro a' w' hF' hb hd
  obtain⟨v21_0,e21,h21_1⟩:=tH hd 0 rfl
  obtain⟨v24_0,e24,h24_1⟩:=tH hd 1 rfl
  exact dc0 (rk Kr (aL e21 e24)) (nT _ _ ((z1*(((D2:Nat):Int)))+(z2*(((D1:Nat):Int)))) ((((D1:Nat):Int))*(((D2:Nat):Int))) (max ((max (k+j) (j+k))+1) (k+j)) _ h21_1 h24_1 (Lim.up (ip (df lz1 (cY lD2)) (df lz2 (cY lD1)) ((max (k+j) (j+k))+1) (by omega) (by omega)) _ (by omega)) (Lim.up (df (cY lD1) (cY lD2)) _ (by omega)) (by omega)) rfl rfl
 intro a w6 hF bb hall hne
 replace st:=st.to bb
 obtain⟨vv7,hF,st⟩:=aS hall hF st 12 rfl rfl Rr.cl
 clear hall hne bb
 obtain⟨r9,rfl⟩:=Rr.fo (st.f 0 rfl)
 refine so st hF 2 4 0 ag rfl rfl rfl rfl fun w10 a st hF=>nr<|rs Tryz.results201 st hF 4 2 ag rfl rfl rfl ?_
 exact⟨_,rfl,Rr.cast (Rr.up (st.f 0 rfl) _ (by omega)) (by rw[hq1.out,hq2.out];exact Ly hD1 hD2),st.bel⟩
theorem wU (v1 v2:Value) (q1 q2:Rat) (k j:Nat) (w:World) (h1:Rr w v1 q1 k) (h2:Rr w v2 q2 j) (hp:1<=k) (hp2:1<=j) (hk:k<=10000) (hj:j<=10000):
 CP 140 #[v1,v2] w (cf w (q1*q2) (k+j)):=by
 obtain⟨b1,ad1,n1,c1,ae1,m1,d1,z1,D1,rfl,hn1,hd1,hD1,hq1,lz1,lD1⟩:=h1.shape
 have ha1:=hn1.abs
 have hb1:=hn1.neg
 replace hq1:=Lib.hid hq1
 obtain⟨b2,ad2,n2,c2,ae2,m2,d2,z2,D2,rfl,hn2,hd2,hD2,hq2,lz2,lD2⟩:=h2.shape
 have ha2:=hn2.abs
 have hb2:=hn2.neg
 replace hq2:=Lib.hid hq2
 refine gs2 (nt:=17) Tryz.func140 rfl rfl rfl fun a st hF=>wq<|bx st hF 0 rfl rfl fun g2 w1 a st hF=>bx st hF 2 rfl rfl fun g3 w2 a st hF=>S.alloc st hF ag rfl rfl fun g4 w3 a st hF=>ns ?_
 refine E.rg 12 aM hF [5,6,7,8,9,10,11,12,13,14,15,16] [_,_,_,_,_,_,_,_,_,_,.of (fun w v=>Rz w v ((((D1)*(D2):Nat):Int))) (fun _ _ _ h hb=>h.below hb),.of (fun w v=>Rr w v (((z1*z2:Int):Rat)/(((((D1)*(D2):Nat):Int):Int):Rat)) ((k+j))) (fun _ _ _ h hb=>h.below hb)] (by decide+kernel) rfl rfl rfl ⟨rfd 2 (fun _=>fi (p:=0) rfl) rfl,rld rfl fun _ hb=>(gQ (vs:=[.bool b1,.slice ad1 n1 c1]) ((st.b 2 rfl rfl).below hb) rfl rfl),rfd 1 (fun _=>fi (p:=0) rfl) rfl,rld rfl fun _ hb=>(gQ (vs:=[.bool b2,.slice ad2 n2 c2]) ((st.b 1 rfl rfl).below hb) rfl rfl),ck st k70 rfl fun _ s=>cP (fu _ _ _ _ k j _ (hn1.below s.bel) (hn2.below s.bel) lz1 lz2 (by omega) (by omega)) (df lz1 lz2),rfd 2 (fun _=>fE (p:=2) rfl) rfl,rld rfl fun _ hb=>(cB (v:= .slice ae1 m1 d1) ((st.b 2 rfl rfl).below hb) rfl),rfd 1 (fun _=>fE (p:=2) rfl) rfl,rld rfl fun _ hb=>(cB (v:= .slice ae2 m2 d2) ((st.b 1 rfl rfl).below hb) rfl),ck st NL rfl fun _ s=>qr (yt _ _ _ _ _ (hd1.below s.bel) (hd2.below s.bel) (Lim.dh lD1 _ (by omega)) (Lim.dh lD2 _ (by omega))),(by intro a' w' hF' hb hd;obtain⟨v14_0,e14,h14_1⟩:=tH hd 0 rfl;obtain⟨ad4,n4,c4,rfl⟩:=Dg.form h14_1;exact dv0 (bn (eQ e14) (hC _ _ _ _)) (Rz.nat h14_1) rfl rfl),ck st I7 rfl fun _ s _ x9 _ x15=>gi (nT _ _ (z1*z2) ((((D1)*(D2):Nat):Int)) (k+j) _ x9.1 x15 (Lim.up x9.2 _ (by omega)) (Lim.up (cY (Lim.mul lD1 lD2)) _ (by omega)) (by omega)),trivial⟩ ?_
 intro a w5 hF bb hall
 replace st:=st.to bb
 obtain⟨vv6,hF,st⟩:=rS hall hF st 11 rfl rfl Rr.cl
 obtain⟨r8,rfl⟩:=Rr.fo (st.f 0 rfl)
 clear hall bb
 refine so st hF 0 1 0 ag rfl rfl rfl rfl fun w9 a st hF=>nr<|rs Tryz.results140 st hF 1 0 ag rfl rfl rfl ?_
 exact⟨_,rfl,Rr.cast (Rr.up (st.f 0 rfl) _ (by omega)) (by rw[hq1.out,hq2.out];exact M2 hD1 hD2),st.bel⟩
theorem xr (v1 v2:Value) (q1 q2:Rat) (k j:Nat) (w:World) (h1:Rr w v1 q1 k) (h2:Rr w v2 q2 j) (hp:1<=k) (hp2:1<=j) (hk:k<=10000) (hj:j<=10000):
 CP 245 #[v1,v2] w (cf w (q1/q2) (k+j)):=by
 obtain⟨b1,ad1,n1,c1,ae1,m1,d1,z1,D1,rfl,hn1,hd1,hD1,hq1,lz1,lD1⟩:=h1.shape
 have ha1:=hn1.abs
 have hb1:=hn1.neg
 replace hq1:=Lib.hid hq1
 obtain⟨b2,ad2,n2,c2,ae2,m2,d2,z2,D2,rfl,hn2,hd2,hD2,hq2,lz2,lD2⟩:=h2.shape
 have ha2:=hn2.abs
 have hb2:=hn2.neg
 replace hq2:=Lib.hid hq2
 refine gs2 (nt:=18) Tryz.func245 rfl rfl rfl fun a st hF=>wq<|bx st hF 0 rfl rfl fun g2 w1 a st hF=>bx st hF 2 rfl rfl fun g3 w2 a st hF=>S.alloc st hF ag rfl rfl fun g4 w3 a st hF=>ns ?_
 refine E.rg 13 aM hF [5,6,7,8,9,10,11,12,13,14,15,16,17] [_,_,_,_,.ex (.agg #[.bool false,.slice ae2 m2 d2]),_,_,_,.ex (.agg #[.bool false,.slice ae1 m1 d1]),_,_,_,.of (fun w v=>Rr w v (((z1*(((D2:Nat):Int)):Int):Rat)/(((((D1:Nat):Int))*z2:Int):Rat)) ((k+j))) (fun _ _ _ h hb=>h.below hb)] (by decide+kernel) rfl rfl rfl ⟨rfd 2 (fun _=>fi (p:=0) rfl) rfl,rld rfl fun _ hb=>(gQ (vs:=[.bool b1,.slice ad1 n1 c1]) ((st.b 2 rfl rfl).below hb) rfl rfl),rfd 1 (fun _=>fE (p:=2) rfl) rfl,rld rfl fun _ hb=>(cB (v:= .slice ae2 m2 d2) ((st.b 1 rfl rfl).below hb) rfl),(by intro a' w' hF' hb hd;have e8:=tE hd 0 rfl;exact dv0 (bn (eQ e8) (hC _ _ _ _)) rfl rfl rfl),ck st k70 rfl fun _ s=>cP (fu _ _ _ _ k j _ (hn1.below s.bel) (Rz.nat (hd2.below s.bel)) lz1 (cY lD2) (by omega) (by omega)) (df lz1 (cY lD2)),rfd 2 (fun _=>fE (p:=2) rfl) rfl,rld rfl fun _ hb=>(cB (v:= .slice ae1 m1 d1) ((st.b 2 rfl rfl).below hb) rfl),(by intro a' w' hF' hb hd;have e12:=tE hd 0 rfl;exact dv0 (bn (eQ e12) (hC _ _ _ _)) rfl rfl rfl),rfd 1 (fun _=>fi (p:=0) rfl) rfl,rld rfl fun _ hb=>(gQ (vs:=[.bool b2,.slice ad2 n2 c2]) ((st.b 1 rfl rfl).below hb) rfl rfl),ck st k70 rfl fun _ s=>cP (fu _ _ _ _ k j _ (Rz.nat (hd1.below s.bel)) (hn2.below s.bel) (cY lD1) lz2 (by omega) (by omega)) (df (cY lD1) lz2),ck st I7 rfl fun _ s _ x10 _ x16=>gi (nT _ _ (z1*(((D2:Nat):Int))) ((((D1:Nat):Int))*z2) (k+j) _ x10.1 x16.1 (Lim.up x10.2 _ (by omega)) (Lim.up x16.2 _ (by omega)) (by omega)),trivial⟩ ?_
 intro a w4 hF bb hall
 replace st:=st.to bb
 obtain⟨vv5,hF,st⟩:=rS hall hF st 12 rfl rfl Rr.cl
 obtain⟨r7,rfl⟩:=Rr.fo (st.f 0 rfl)
 clear hall bb
 refine so st hF 0 1 0 ag rfl rfl rfl rfl fun w8 a st hF=>nr<|rs Tryz.results245 st hF 1 0 ag rfl rfl rfl ?_
 exact⟨_,rfl,Rr.cast (Rr.up (st.f 0 rfl) _ (by omega)) (by rw[hq1.out,hq2.out];exact Ng hD1 hD2),st.bel⟩
theorem nv (v1 v2:Value) (q1 q2:Rat) (k j:Nat) (w:World) (h1:Rr w v1 q1 k) (h2:Rr w v2 q2 j) (hk:k<=10000) (hj:j<=10000):
 CP 219 #[v1,v2] w (jP w (qc q1 q2)):=by
 obtain⟨b1,ad1,n1,c1,ae1,m1,d1,z1,D1,rfl,hn1,hd1,hD1,hq1,lz1,lD1⟩:=h1.shape
 have ha1:=hn1.abs
 have hb1:=hn1.neg
 replace hq1:=Lib.hid hq1
 obtain⟨b2,ad2,n2,c2,ae2,m2,d2,z2,D2,rfl,hn2,hd2,hD2,hq2,lz2,lD2⟩:=h2.shape
 have ha2:=hn2.abs
 have hb2:=hn2.neg
 replace hq2:=Lib.hid hq2
 refine gs2 (nt:=18) Tryz.func219 rfl rfl rfl fun a st hF=>wq<|bx st hF 0 rfl rfl fun g2 w1 a st hF=>bx st hF 2 rfl rfl fun g3 w2 a st hF=>?_
 refine oC hF rfl fun a hF=>ns ?_
 refine E.rg 13 aM hF [5,6,7,8,9,10,11,12,13,14,15,16,17] [_,_,_,_,.ex (.agg #[.bool false,.slice ae2 m2 d2]),_,_,_,_,_,.ex (.agg #[.bool false,.slice ae1 m1 d1]),_,_] (by decide+kernel) rfl rfl rfl ⟨rfd 2 (fun _=>fi (p:=0) rfl) rfl,rld rfl fun _ hb=>(gQ (vs:=[.bool b1,.slice ad1 n1 c1]) ((st.b 1 rfl rfl).below hb) rfl rfl),rfd 1 (fun _=>fE (p:=2) rfl) rfl,rld rfl fun _ hb=>(cB (v:= .slice ae2 m2 d2) ((st.b 0 rfl rfl).below hb) rfl),(by intro a' w' hF' hb hd;have e8:=tE hd 0 rfl;exact dv0 (bn (eQ e8) (hC _ _ _ _)) rfl rfl rfl),ck st k70 rfl fun _ s=>cP (fu _ _ _ _ k j _ (hn1.below s.bel) (Rz.nat (hd2.below s.bel)) lz1 (cY lD2) (by omega) (by omega)) (df lz1 (cY lD2)),rfd 1 (fun _=>fi (p:=0) rfl) rfl,rld rfl fun _ hb=>(gQ (vs:=[.bool b2,.slice ad2 n2 c2]) ((st.b 0 rfl rfl).below hb) rfl rfl),rfd 2 (fun _=>fE (p:=2) rfl) rfl,rld rfl fun _ hb=>(cB (v:= .slice ae1 m1 d1) ((st.b 1 rfl rfl).below hb) rfl),(by intro a' w' hF' hb hd;have e14:=tE hd 0 rfl;exact dv0 (bn (eQ e14) (hC _ _ _ _)) rfl rfl rfl),ck st k70 rfl fun _ s=>cP (fu _ _ _ _ j k _ (hn2.below s.bel) (Rz.nat (hd1.below s.bel)) lz2 (cY lD1) (by omega) (by omega)) (df lz2 (cY lD1)),ck st k69 rfl fun _ s _ x10 _ x16=>bD (Fp _ _ _ _ (k+j) (j+k) _ x10.1 x16.1 x10.2 x16.2 (by omega) (by omega)),trivial⟩ ?_
 intro a w3 hF bb hall
 replace st:=st.to bb
 replace hF:=rE hall hF 12 rfl rfl
 clear hall bb
 refine oE hF 0 rfl rfl fun a hF=>nr ?_
 have bel:=st.bel
 refine rt Tryz.results219 hF 0 rfl ?_
 exact⟨by rw[hq1.out,hq2.out,<-IW hD1 hD2],bel⟩
theorem ng (v1 v2:Value) (q1 q2:Rat) (k j:Nat) (w:World) (h1:Rr w v1 q1 k) (h2:Rr w v2 q2 j) (hp:1<=k) (hp2:1<=j) (hk:k<=10000) (hj:j<=10000):
 CP 166 #[v1,v2] w (cf w (q1-q2) (k+j+1)):=by
 obtain⟨r1,rfl⟩:=h1.fo
 obtain⟨r2,rfl⟩:=h2.fo
 refine gs2 (nt:=9) Tryz.func166 rfl rfl rfl fun a st hF=>wq<|bx st hF 0 rfl rfl fun g2 w1 a st hF=>bx st hF 2 rfl rfl fun g3 w2 a st hF=>S.alloc st hF ag rfl rfl fun g4 w3 a st hF=>ns ?_
 refine E.rg 4 aM hF [5,6,7,8] [_,_,.of (fun w v=>Rr w v (-(q2)) (j)) (fun _ _ _ h hb=>h.below hb),.of (fun w v=>Rr w v ((q1)+(-(q2))) ((k+j+1))) (fun _ _ _ h hb=>h.below hb)] (by decide+kernel) rfl rfl rfl ⟨rb st ag 2 2 rfl,rb st ag 1 1 rfl,ck st yM rfl fun _ s=>gi (mH _ (q2) j _ (h2.below s.bel)),ck st nE rfl fun _ s _ x7=>gi (ro _ _ (q1) (-(q2)) k j _ (h1.below s.bel) x7 (by omega) (by omega) (by omega) (by omega)),trivial⟩ ?_
 intro a w4 hF bb hall
 replace st:=st.to bb
 obtain⟨vv5,hF,st⟩:=rS hall hF st 3 rfl rfl Rr.cl
 obtain⟨r7,rfl⟩:=Rr.fo (st.f 0 rfl)
 clear hall bb
 refine so st hF 0 1 0 ag rfl rfl rfl rfl fun w8 a st hF=>nr<|rs Tryz.results166 st hF 1 0 ag rfl rfl rfl ?_
 exact⟨_,rfl,Rr.cast (st.f 0 rfl) (Rat.sub_eq_add_neg q1 q2).symm,st.bel⟩
theorem qN (v1 v2:Value) (q1 q2:Rat) (k j i l:Nat) (w:World) (h1:Rr w v1 q1 k) (h2:Rr w v2 q2 j) (li1:av q1 i) (li2:av q2 l) (hp:1<=k) (hp2:1<=j) (hk:k<=4000) (hj:j<=100) (hi:i<=2000) (hl:l<=100):
 CP 206 #[v1,v2] w (cf w (rmod q1 q2) (k+j+i+l+3)):=by
 obtain⟨b1,ad1,n1,c1,ae1,m1,d1,z1,D1,rfl,hn1,hd1,hD1,hq1,lz1,lD1⟩:=h1.shape
 have ha1:=hn1.abs
 have hb1:=hn1.neg
 replace hq1:=Lib.hid hq1
 obtain⟨b2,ad2,n2,c2,ae2,m2,d2,z2,D2,rfl,hn2,hd2,hD2,hq2,lz2,lD2⟩:=h2.shape
 have ha2:=hn2.abs
 have hb2:=hn2.neg
 replace hq2:=Lib.hid hq2
 by_cases h0:sz (Rat.num (q2))<=0
 ·have st:=St.start w
  refine go2 (nt:=18) Tryz.func206 rfl rfl rfl fun a hF=>wq<|bx st hF 0 rfl rfl fun g2 w1 a st hF=>bx st hF 2 rfl rfl fun g3 w2 a st hF=>S.alloc st hF ag rfl rfl fun g4 w3 a st hF=>ns<|wq<|oL hF st 1 1 ag rfl rfl rfl rfl fun a hF=>cX st hF (rgc qD (aG hF.o)) (iZ _ (q2) j _ (h2.below st.bel)) rfl fun w4 a st hF=>?_
  refine oT hF 0 (cg (c:=true) (aI h0)) rfl rfl fun a hF=>E.nil<|wp_cond_true hF.o<|wq<|S.ck st hF (rgc bM (aL ao ao)) (bH (gZ (0) _ (by decide) (by decide)) (eC (by decide) (by decide))) Rh.cl rfl fun vv6 w5 a st hF=>?_
  obtain⟨r8,rfl⟩:=Rr.fo (st.f 0 rfl).1
  refine so st hF 0 4 0 ag rfl rfl rfl rfl fun w9 a st hF=>nr<|rs Tryz.results206 st hF 4 0 ag rfl rfl rfl ?_
  exact⟨_,rfl,Rr.cast (Rr.up (st.f 0 rfl).1 _ (by omega)) (Rat.intCast_zero.trans (BC h0)),st.bel⟩
 ·have st:=St.start w
  refine go2 (nt:=18) Tryz.func206 rfl rfl rfl fun a hF=>wq<|bx st hF 0 rfl rfl fun g2 w1 a st hF=>bx st hF 2 rfl rfl fun g3 w2 a st hF=>S.alloc st hF ag rfl rfl fun g4 w3 a st hF=>ns<|wq<|oL hF st 1 1 ag rfl rfl rfl rfl fun a hF=>cX st hF (rgc qD (aG hF.o)) (iZ _ (q2) j _ (h2.below st.bel)) rfl fun w4 a st hF=>?_
  refine oT hF 0 (cg (c:=false) (aJ h0)) rfl rfl fun a hF=>E.nil<|wp_cond_false hF.o<|wp_skip<|E.norm<|wp_seq<|gz2 9 aM st hF ag 0 3 [9,10,11,12,13,14,15,16,17] [_,_,_,_,_,_,_,_,_] (by decide+kernel) rfl rfl rfl ⟨rb st ag 5 2 rfl,rb st ag 4 1 rfl,rb st ag 5 2 rfl,rb st ag 4 1 rfl,ck st wi rfl fun _ s=>bH (xr _ _ (q1) (q2) k j _ (h1.below s.bel) (h2.below s.bel) (by omega) (by omega) (by omega) (by omega)) (dX li1 li2),ck st C7 rfl fun _ s _ x13=>cP (kl _ ((q1)/(q2)) (k+j) _ x13.1 (by omega) (by omega)) (gH x13.2),ck st H3 rfl fun _ s _ x14=>bH (pl _ (Rat.floor ((q1)/(q2))) (((i+l)+1)+1) _ x14.1 (Lim.up x14.2 _ (by omega)) (by omega)) (cK (Lim.up x14.2 (((i+l)+1)+1) (by omega)) (by omega)),ck st dA rfl fun _ s _ x15=>bH (wU _ _ (q2) (((Rat.floor ((q1)/(q2)):Int):Rat)) j (((i+l)+1)+1) _ (h2.below s.bel) x15.1 (by omega) (by omega) (by omega) (by omega)) (bm li2 x15.2),ck st ij rfl fun _ s _ x16=>bH (ng _ _ (q1) ((q2)*(((Rat.floor ((q1)/(q2)):Int):Rat))) k (j+(((i+l)+1)+1)) _ (h1.below s.bel) x16.1 (by omega) (by omega) (by omega) (by omega)) (cD li1 x16.2),trivial⟩ fun r8 w9 a st hF=>?_
  refine nr<|rs Tryz.results206 st hF 4 0 ag rfl rfl rfl ?_
  exact⟨_,rfl,Rr.cast (Rr.up (st.f 0 rfl).1 _ (by omega)) (xZ h0),st.bel⟩
theorem OR:(Tryz.prog.info? 47).map (·.size)=some 6:=by kernel_rfl
theorem EI:(Tryz.prog.info? 47).bind (·.zero)=some (.agg #[.bool false,.slice none 0 0,.slice none 0 0,.bool false,.slice none 0 0,.slice none 0 0]):=by kernel_rfl
theorem GX {w:World} {g o p:Nat} (hp:o+0=p):(Instr.fieldAt 47 (.pointer (some ⟨g,o,none⟩)) 0).run Tryz.prog w= .ok (.pointer (some ⟨g,p,none⟩)) w:=bp Tryz.underlying47 rfl rfl mh rfl p hp
theorem IB {w:World} {g o p:Nat} (hp:o+3=p):(Instr.fieldAt 47 (.pointer (some ⟨g,o,none⟩)) 1).run Tryz.prog w= .ok (.pointer (some ⟨g,p,none⟩)) w:=bp Tryz.underlying47 rfl rfl mh rfl p hp
theorem E5 {place:Nat->Option (Nat×Nat)} {cells:Array Value} {i off:Nat} {x y z:Value} {rest:List (Nat×Value)} (hp:place i=some (off,3)) (hc:off+3<=cells.size):
 Instr.fill place cells ((i,.agg #[x,y,z])::rest)=Instr.fill place (((cells.setIfInBounds off x).setIfInBounds (off+1) y).setIfInBounds (off+2) z) rest:=by
 conv=>lhs;unfold Instr.fill
 rw[hp]
 have h1:(Value.agg #[x,y,z]).cells =#[x,y,z]:=rfl
 simp only [h1]
 rw[if_neg (by simp;omega)]
 have h2:∀f:Array Value->Value×Nat->Array Value,Array.foldl f cells #[x,y,z].zipIdx =f (f (f cells (x,0)) (y,1)) (z,2):=fun f=>rfl
 rw[h2]
 rfl
theorem ET (b00:Bool) (a01:Option Addr) (n01 c01:Nat) (a02:Option Addr) (n02 c02:Nat) (b10:Bool) (a11:Option Addr) (n11 c11:Nat) (a12:Option Addr) (n12 c12:Nat) (w:World):(Instr.build 47 #[(0,.agg #[.bool b00,.slice a01 n01 c01,.slice a02 n02 c02]),(1,.agg #[.bool b10,.slice a11 n11 c11,.slice a12 n12 c12])]).run Tryz.prog w= .ok (.agg #[.bool b00,.slice a01 n01 c01,.slice a02 n02 c02,.bool b10,.slice a11 n11 c11,.slice a12 n12 c12]) w:=by
 have hz:=dr EI w
 have h_RRat:∀w,(sizeOf 45).run Tryz.prog w= .ok 3 w:=fun w=>bh mh w
 simp only [Instr.build,Sem.run_bind,hz,Result.andThen_ok,run_underlying Tryz.underlying47,List.mapM_toArray,List.mapM_cons,List.mapM_nil,Sem.run_map,h_RRat,Sem.run_pure]
 rw[show(Value.agg #[Value.bool false,Value.slice none 0 0,Value.slice none 0 0,Value.bool false,Value.slice none 0 0,Value.slice none 0 0]).cells =#[Value.bool false,Value.slice none 0 0,Value.slice none 0 0,Value.bool false,Value.slice none 0 0,Value.slice none 0 0] from rfl]
 rw[E5 (off:=0) rfl (by simp),E5 (off:=3) rfl (by simp)]
 simp only [List.setIfInBounds_toArray,List.set_cons_zero,List.set_cons_succ,Nat.reduceAdd,Nat.zero_add]
 rfl
def RPl (w:World) (v:Value) (p q:Rat) (k:Nat):Prop:=
 ∃b1 a1 n1 c1 d1 m1 e1 b2 a2 n2 c2 d2 m2 e2,v= .agg #[.bool b1,.slice a1 n1 c1,.slice d1 m1 e1,.bool b2,.slice a2 n2 c2,.slice d2 m2 e2]/\Rr w (.agg #[.bool b1,.slice a1 n1 c1,.slice d1 m1 e1]) p k/\Rr w (.agg #[.bool b2,.slice a2 n2 c2,.slice d2 m2 e2]) q k
theorem RPl.below {w w':World} {v:Value} {p q:Rat} {k:Nat} (h:RPl w v p q k) (hb:Below w.heap.size w w'):RPl w' v p q k:=by
 obtain⟨b1,a1,n1,c1,d1,m1,e1,b2,a2,n2,c2,d2,m2,e2,h0,h1,h2⟩:=h
 exact⟨b1,a1,n1,c1,d1,m1,e1,b2,a2,n2,c2,d2,m2,e2,h0,h1.below hb,h2.below hb⟩
theorem RPl.keep {w w':World} {v:Value} {p q:Rat} {k:Nat} (h:RPl w v p q k) (kp:eO w w'):RPl w' v p q k:=by
 obtain⟨b1,a1,n1,c1,d1,m1,e1,b2,a2,n2,c2,d2,m2,e2,h0,h1,h2⟩:=h
 exact⟨b1,a1,n1,c1,d1,m1,e1,b2,a2,n2,c2,d2,m2,e2,h0,h1.keep kp,h2.keep kp⟩
theorem RPl.cl {p q:Rat} {k:Nat} (v:Value):Cl fun w=>RPl w v p q k:=fun _ _ h kp=>h.keep kp
theorem RPl.shape {w:World} {v:Value} {p q:Rat} {k:Nat} (h:RPl w v p q k):∃b1 a1 n1 c1 d1 m1 e1 b2 a2 n2 c2 d2 m2 e2,v= .agg #[.bool b1,.slice a1 n1 c1,.slice d1 m1 e1,.bool b2,.slice a2 n2 c2,.slice d2 m2 e2]/\Rr w (.agg #[.bool b1,.slice a1 n1 c1,.slice d1 m1 e1]) p k/\Rr w (.agg #[.bool b2,.slice a2 n2 c2,.slice d2 m2 e2]) q k:=h
theorem RPl.mono (p q:Rat) (k:Nat):∀w w' v,RPl w v p q k->Below w.heap.size w w'->RPl w' v p q k:=fun _ _ _ h hb=>h.below hb
def LL (w:World) (p q:Rat) (k:Nat) (e:Ending) (w':World):Prop:=∃v,e= .returned v/\RPl w' v p q k/\Below w.heap.size w w'
theorem oO:Ty Tryz.prog 47 6 [.bool false,.slice none 0 0,.slice none 0 0,.bool false,.slice none 0 0,.slice none 0 0]:=⟨⟨_,Tryz.underlying47,rfl⟩,OR,EI⟩
theorem Db (v1 v2 v3:Value) (q1 q2 q3:Rat) (k i:Nat) (w:World) (h1:Rr w v1 q1 k) (h2:Rr w v2 q2 2) (h3:Rr w v3 q3 2) (li1:av q1 i) (li2:av q2 2) (li3:av q3 2) (hp:1<=k) (hk:k<=1000) (hi:i<=1000):
 CP 286 #[v1,v2,v3] w (cf w (dR q1 q2 q3) (k+i+30)):=by
 obtain⟨b1,ad1,n1,c1,ae1,m1,d1,z1,D1,rfl,hn1,hd1,hD1,hq1,lz1,lD1⟩:=h1.shape
 have ha1:=hn1.abs
 have hb1:=hn1.neg
 replace hq1:=Lib.hid hq1
 obtain⟨b2,ad2,n2,c2,ae2,m2,d2,z2,D2,rfl,hn2,hd2,hD2,hq2,lz2,lD2⟩:=h2.shape
 have ha2:=hn2.abs
 have hb2:=hn2.neg
 replace hq2:=Lib.hid hq2
 obtain⟨b3,ad3,n3,c3,ae3,m3,d3,z3,D3,rfl,hn3,hd3,hD3,hq3,lz3,lD3⟩:=h3.shape
 have ha3:=hn3.abs
 have hb3:=hn3.neg
 replace hq3:=Lib.hid hq3
 by_cases h0:sz (Rat.num ((q3)-(q2)))<=0
 ·have st:=St.start w
  refine go3 (nt:=21) Tryz.func286 rfl rfl rfl fun a hF=>wq<|bx st hF 0 rfl rfl fun g3 w1 a st hF=>bx st hF 2 rfl rfl fun g4 w2 a st hF=>bx st hF 4 rfl rfl fun g5 w3 a st hF=>S.alloc st hF ag rfl rfl fun g6 w4 a st hF=>ns<|wq<|oL hF st 2 2 ag rfl rfl rfl rfl fun a hF=>oL hF st 2 1 ag rfl rfl rfl rfl fun a hF=>?_
  refine cX st hF (rk K4 (aL hF.p hF.o)) (nv _ _ (q2) (q3) 2 2 _ (h2.below st.bel) (h3.below st.bel) (by omega) (by omega)) rfl fun w5 a st hF=>oT hF 0 (dI (c:=true) (aI (Ed.2 h0))) rfl rfl fun a hF=>E.nil<|wp_cond_true hF.o<|wq ?_
  refine ca st hF (rk xP (aL ao ao)) (gZ (0) _ (by decide) (by decide)) (fun _ _ h=>h) Rr.cl rfl fun vv7 w6 a st hF=>?_
  obtain⟨r9,rfl⟩:=Rr.fo (st.f 0 rfl)
  refine so st hF 0 5 0 ag rfl rfl rfl rfl fun w10 a st hF=>nr<|rs Tryz.results286 st hF 5 0 ag rfl rfl rfl ?_
  exact⟨_,rfl,Rr.cast (Rr.up (st.f 0 rfl) _ (by omega)) (Rat.intCast_zero.trans (zF h0)),st.bel⟩
 ·have st:=St.start w
  refine go3 (nt:=21) Tryz.func286 rfl rfl rfl fun a hF=>wq<|bx st hF 0 rfl rfl fun g3 w1 a st hF=>bx st hF 2 rfl rfl fun g4 w2 a st hF=>bx st hF 4 rfl rfl fun g5 w3 a st hF=>S.alloc st hF ag rfl rfl fun g6 w4 a st hF=>ns<|wq<|oL hF st 2 2 ag rfl rfl rfl rfl fun a hF=>oL hF st 2 1 ag rfl rfl rfl rfl fun a hF=>?_
  refine cX st hF (rk K4 (aL hF.p hF.o)) (nv _ _ (q2) (q3) 2 2 _ (h2.below st.bel) (h3.below st.bel) (by omega) (by omega)) rfl fun w5 a st hF=>oT hF 0 (dI (c:=false) (aJ (fun e=>h0 (Ed.1 e)))) rfl rfl fun a hF=>E.nil<|wp_cond_false hF.o<|wp_skip<|E.norm<|wp_seq ?_
  refine eD 9 aM hF [12,13,14,15,16,17,18,19,20] [(Iz (.agg #[.bool b2,.slice ad2 n2 c2,.slice ae2 m2 d2])),(Iz (.agg #[.bool b1,.slice ad1 n1 c1,.slice ae1 m1 d1])),(Iz (.agg #[.bool b2,.slice ad2 n2 c2,.slice ae2 m2 d2])),(Ir ((q1)-(q2)) ((k+2+1))),(Iz (.agg #[.bool b3,.slice ad3 n3 c3,.slice ae3 m3 d3])),(Iz (.agg #[.bool b2,.slice ad2 n2 c2,.slice ae2 m2 d2])),(Ir ((q3)-(q2)) ((2+2+1))),(Ir (rmod ((q1)-(q2)) ((q3)-(q2))) (((k+2+1)+(2+2+1)+(i+2+1)+(2+2+1)+3))),(Ir ((q2)+(rmod ((q1)-(q2)) ((q3)-(q2)))) ((2+((k+2+1)+(2+2+1)+(i+2+1)+(2+2+1)+3)+1)))] [] (by decide+kernel) rfl rfl trivial ⟨?_,?_,?_,?_,?_,?_,?_,?_,?_,trivial⟩ ?_
  ·exact qL st 6 2 ag rfl rfl rfl rfl rfl
  ·exact qL st 7 3 ag rfl rfl rfl rfl rfl
  ·exact qL st 6 2 ag rfl rfl rfl rfl rfl
  ·intro a' w' hF' hb hd
   have e13:=tE hd 0 rfl
   have e14:=tE hd 1 rfl
   exact dc0 (rk KL (aL e13 e14)) (ng _ _ (q1) (q2) k 2 _ (h1.below (aF st.bel hb)) (h2.below (aF st.bel hb)) (by omega) (by omega) (by omega) (by omega)) rfl rfl
  ·exact qL st 5 1 ag rfl rfl rfl rfl rfl
  ·exact qL st 6 2 ag rfl rfl rfl rfl rfl
  ·intro a' w' hF' hb hd
   have e16:=tE hd 0 rfl
   have e17:=tE hd 1 rfl
   exact dc0 (rk KL (aL e16 e17)) (ng _ _ (q3) (q2) 2 2 _ (h3.below (aF st.bel hb)) (h2.below (aF st.bel hb)) (by omega) (by omega) (by omega) (by omega)) rfl rfl
  ·intro a' w' hF' hb hd
   obtain⟨v15_0,e15,h15_1⟩:=tH hd 0 rfl
   obtain⟨v18_0,e18,h18_1⟩:=tH hd 1 rfl
   exact dc0 (rk QV (aL e15 e18)) (qN _ _ _ _ (k+2+1) (2+2+1) (i+2+1) (2+2+1) _ h15_1 h18_1 (cD li1 li2) (cD li3 li2) (by omega) (by omega) (by omega) (by omega) (by omega) (by omega)) rfl rfl
  ·intro a' w' hF' hb hd
   have e12:=tE hd 0 rfl
   obtain⟨v19_0,e19,h19_1⟩:=tH hd 1 rfl
   exact dc0 (rk RQ (aL e12 e19)) (ro _ _ (q2) _ 2 ((k+2+1)+(2+2+1)+(i+2+1)+(2+2+1)+3) _ (h2.below (aF st.bel hb)) h19_1 (by omega) (by omega) (by omega) (by omega)) rfl rfl
  intro a w6 hF bb hall hne
  replace st:=st.to bb
  obtain⟨vv7,hF,st⟩:=aS hall hF st 8 rfl rfl Rr.cl
  clear hall hne bb
  obtain⟨r9,rfl⟩:=Rr.fo (st.f 0 rfl)
  refine so st hF 0 5 0 ag rfl rfl rfl rfl fun w10 a st hF=>nr<|rs Tryz.results286 st hF 5 0 ag rfl rfl rfl ?_
  exact⟨_,rfl,Rr.cast (Rr.up (st.f 0 rfl) _ (by omega)) (xt h0),st.bel⟩
theorem CI (xa xb xc xd:Int) (w:World) (hxa0: -9223372036854775808<=xa) (hxa1:xa<=9223372036854775807) (hxb0: -9223372036854775808<=xb) (hxb1:xb<=9223372036854775807) (hxc0: -9223372036854775808<=xc) (hxc1:xc<=9223372036854775807) (hxd0: -9223372036854775808<=xd) (hxd1:xd<=9223372036854775807):
 CP 19 #[.agg #[iv xa,iv xb,iv xc,iv xd]] w (LL w (((xa:Int):Rat)/((xb:Int):Rat)) (((xc:Int):Rat)/((xd:Int):Rat)) 2):=by
 refine gs1 (nt:=14) Tryz.func19 rfl rfl rfl fun a st hF=>wq<|bx st hF 0 rfl rfl fun g1 w1 a st hF=>S.alloc st hF oO rfl rfl fun g2 w2 a st hF=>ns ?_
 refine E.drawn 11 aM hF [3,4,5,6,7,8,9,10,11,12,13] [(fun _ v=>v= .pointer (some ⟨g1,0,none⟩)),(fun _ v=>v= iv xa),(fun _ v=>v= .pointer (some ⟨g1,1,none⟩)),(fun _ v=>v= iv xb),(fun w v=>Rr w v (((xa:Int):Rat)/((xb:Int):Rat)) (2)),(fun _ v=>v= .pointer (some ⟨g1,2,none⟩)),(fun _ v=>v= iv xc),(fun _ v=>v= .pointer (some ⟨g1,3,none⟩)),(fun _ v=>v= iv xd),(fun w v=>Rr w v (((xc:Int):Rat)/((xd:Int):Rat)) (2)),(fun w v=>RPl w v (((xa:Int):Rat)/((xb:Int):Rat)) (((xc:Int):Rat)/((xd:Int):Rat)) (2))] [] (by decide+kernel) (by decide+kernel) rfl rfl rfl ⟨(Mb.eq _),(Mb.eq _),(Mb.eq _),(Mb.eq _),(fun _ _ _ h hb=>h.below hb),(Mb.eq _),(Mb.eq _),(Mb.eq _),(Mb.eq _),(fun _ _ _ h hb=>h.below hb),(RPl.mono _ _ _),trivial⟩ trivial ⟨?_,?_,?_,?_,?_,?_,?_,?_,?_,?_,?_,trivial⟩ ?_
 ·intro a' w' hF' hb hd
  exact dv0 (az (hF'.at 1 rfl) (tW (p:=0) rfl)) rfl rfl rfl
 ·intro a' w' hF' hb hd
  have e3:=tE hd 0 rfl
  exact dv0 (ar e3 (bl (v:= iv xa) ((st.bk 1 rfl).below hb) rfl)) rfl rfl rfl
 ·intro a' w' hF' hb hd
  exact dv0 (az (hF'.at 1 rfl) (ue (p:=1) rfl)) rfl rfl rfl
 ·intro a' w' hF' hb hd
  have e5:=tE hd 0 rfl
  exact dv0 (ar e5 (bl (v:= iv xb) ((st.bk 1 rfl).below hb) rfl)) rfl rfl rfl
 ·intro a' w' hF' hb hd
  have e4:=tE hd 0 rfl
  have e6:=tE hd 1 rfl
  exact dc0 (rk Pm (aL e4 e6)) (BR xa xb _ hxa0 hxa1 hxb0 hxb1) rfl rfl
 ·intro a' w' hF' hb hd
  exact dv0 (az (hF'.at 1 rfl) (tw (p:=2) rfl)) rfl rfl rfl
 ·intro a' w' hF' hb hd
  have e8:=tE hd 0 rfl
  exact dv0 (ar e8 (bl (v:= iv xc) ((st.bk 1 rfl).below hb) rfl)) rfl rfl rfl
 ·intro a' w' hF' hb hd
  exact dv0 (az (hF'.at 1 rfl) (um (p:=3) rfl)) rfl rfl rfl
 ·intro a' w' hF' hb hd
  have e10:=tE hd 0 rfl
  exact dv0 (ar e10 (bl (v:= iv xd) ((st.bk 1 rfl).below hb) rfl)) rfl rfl rfl
 ·intro a' w' hF' hb hd
  have e9:=tE hd 0 rfl
  have e11:=tE hd 1 rfl
  exact dc0 (rk Pm (aL e9 e11)) (BR xc xd _ hxc0 hxc1 hxd0 hxd1) rfl rfl
 ·intro a' w' hF' hb hd
  obtain⟨v7_0,e7,h7_1⟩:=tH hd 0 rfl
  obtain⟨v12_0,e12,h12_1⟩:=tH hd 1 rfl
  obtain⟨r3,rfl⟩:=Rr.fo h7_1
  obtain⟨r4,rfl⟩:=Rr.fo h12_1
  exact dv0 (bn (gG e7 e12) (ET _ _ _ _ _ _ _ _ _ _ _ _ _ _ _)) ⟨_,_,_,_,_,_,_,_,_,_,_,_,_,_,rfl,h7_1,h12_1⟩ rfl rfl
 intro a w5 hF bb hall hne
 replace st:=st.to bb
 obtain⟨vv6,hF,st⟩:=aS hall hF st 10 rfl rfl RPl.cl
 clear hall hne bb
 obtain⟨b9x,ad9x,n9x,c9x,ae9x,m9x,d9x,b9y,ad9y,n9y,c9y,ae9y,m9y,d9y,rfl,hp9x,hp9y⟩:=RPl.shape (st.f 0 rfl)
 refine so st hF 0 1 0 oO rfl rfl rfl rfl fun w10 a st hF=>nr<|rs Tryz.results19 st hF 1 0 oO rfl rfl rfl ?_
 exact⟨_,rfl,(st.f 0 rfl),st.bel⟩
end Go.Proofs.YtgdpkknapcgcbaaGreatDoor
