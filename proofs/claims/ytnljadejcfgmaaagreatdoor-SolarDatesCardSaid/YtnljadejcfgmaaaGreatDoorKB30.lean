import Derived.Test.YtnljadejcfgmaaaGreatDoorKB29
namespace Go.Proofs.YtnljadejcfgmaaaGreatDoor
open Go.RowKit
set_option maxRecDepth 100000
set_option linter.unusedVariables false
set_option maxHeartbeats 8000000
theorem BH (n:Int):((n:Int):Rat)/((1:Int):Rat)=((n:Int):Rat):=y4 n
theorem a5 (n:Int) (w:World) (b1: -9223372036854775808<n) (b2:n≤9223372036854775807):Calls Tryz.prog 38 #[.int .i64 n,.int .i64 1] w (bK w ((n:Int):Rat) 2):=by
 have:=bi n 1 w b1 b2 (by decide) (by decide)
 rwa[BH] at this
theorem je (v1 v2:Value) (q1 q2:Rat) (k j:Nat) (w:World) (h1:Rr w v1 q1 k) (h2:Rr w v2 q2 j) (hp:1≤k) (hp2:1≤j) (hk:k≤10000) (hj:j≤10000):
 Calls Tryz.prog 62 #[v1,v2] w (bK w (q1+q2) (k+j+1)):=by
 obtain⟨b1,ad1,n1,c1,ae1,m1,d1,z1,D1,rfl,hn1,hd1,hD1,hq1,lz1,lD1⟩:=h1.shape
 have h1:Rr w (.agg #[.bool b1,.slice ad1 n1 c1,.slice ae1 m1 d1]) q1 k:=⟨_,_,_,_,_,_,_,_,_,rfl,hn1,hd1,hD1,hq1,lz1,lD1⟩
 have ha1:=hn1.abs
 have hb1:=hn1.neg
 replace hq1:=Lib.hid hq1
 obtain⟨b2,ad2,n2,c2,ae2,m2,d2,z2,D2,rfl,hn2,hd2,hD2,hq2,lz2,lD2⟩:=h2.shape
 have h2:Rr w (.agg #[.bool b2,.slice ad2 n2 c2,.slice ae2 m2 d2]) q2 j:=⟨_,_,_,_,_,_,_,_,_,rfl,hn2,hd2,hD2,hq2,lz2,lD2⟩
 have ha2:=hn2.abs
 have hb2:=hn2.neg
 replace hq2:=Lib.hid hq2
 have st:=St.start w
 refine go2 (nt:=26) Tryz.func62 rfl rfl rfl fun a hF=>?_
 refine wq ?_
 refine bx st hF 0 rfl rfl fun g2 w1 a st hF=>?_
 refine bx st hF 2 rfl rfl fun g3 w2 a st hF=>?_
 refine S.alloc st hF ag rfl rfl fun g4 w3 a st hF=>?_
 refine ns ?_
 refine E.drawn2 9 aF hF [some 7,some 8,some 9,some 10,some 11,some 12,some 5,some 6,none] [(fun _ v=>v= .pointer (some ⟨g2,2,none⟩)),(fun _ v=>v= .slice ae1 m1 d1),(fun _ v=>v= .agg #[.bool false,.slice ae1 m1 d1]),(fun _ v=>v= .pointer (some ⟨g3,2,none⟩)),(fun _ v=>v= .slice ae2 m2 d2),(fun _ v=>v= .agg #[.bool false,.slice ae2 m2 d2]),(fun _ _=>True),(fun _ _=>True),(fun _ _=>True)] [6,7] [⟨8,6,2⟩] [[],[],[],[],[],[],[.bool false,.slice none 0 0],[.bool false,.slice none 0 0],[]] (by decide+kernel) (by decide+kernel) rfl rfl rfl (by decide+kernel) (by decide+kernel) ⟨(Mk.eq _),(Mk.eq _),(Mk.eq _),(Mk.eq _),(Mk.eq _),(Mk.eq _),Mk.any,Mk.any,Mk.any,trivial⟩ ⟨?_,?_,?_,?_,?_,?_,?_,?_,?_,trivial⟩ ?_
 ·refine cx rfl ?_
  intro a' w' hF' hb hd
  exact dw0 (aA (hF'.at 2 rfl) (dS (p:=2) rfl)) rfl rfl rfl
 ·refine cx rfl ?_
  intro a' w' hF' hb hd
  have e7:=pX hd 0 7 rfl rfl rfl rfl rfl
  exact dw0 (av e7 (cp (v:= .slice ae1 m1 d1) ((st.b 2 rfl rfl).below hb) rfl)) rfl rfl rfl
 ·refine cx rfl ?_
  intro a' w' hF' hb hd
  have e8:=pX hd 0 8 rfl rfl rfl rfl rfl
  exact dw0 (bh (fk e8) (eg _ _ _ _)) rfl rfl rfl
 ·refine cx rfl ?_
  intro a' w' hF' hb hd
  exact dw0 (aA (hF'.at 1 rfl) (dS (p:=2) rfl)) rfl rfl rfl
 ·refine cx rfl ?_
  intro a' w' hF' hb hd
  have e10:=pX hd 0 10 rfl rfl rfl rfl rfl
  exact dw0 (av e10 (cp (v:= .slice ae2 m2 d2) ((st.b 1 rfl rfl).below hb) rfl)) rfl rfl rfl
 ·refine cx rfl ?_
  intro a' w' hF' hb hd
  have e11:=pX hd 0 11 rfl rfl rfl rfl rfl
  exact dw0 (bh (fk e11) (eg _ _ _ _)) rfl rfl rfl
 ·refine cx rfl ?_
  intro a' w' hF' hb hd
  obtain⟨g,w2,ge,hr,bb,on⟩:=bP (P:=Tryz.prog) (w:=w') (cs:=[.bool false,.slice none 0 0]) 38 eh rfl (niB (niS ni0))
  subst ge
  exact ce (bm rfl) (bH.vals (cf hr) ⟨(fun h=>absurd h (by decide)),bb,fun _=>⟨rfl,on⟩⟩)
 ·refine cx rfl ?_
  intro a' w' hF' hb hd
  obtain⟨g,w2,ge,hr,bb,on⟩:=bP (P:=Tryz.prog) (w:=w') (cs:=[.bool false,.slice none 0 0]) 38 eh rfl (niB (niS ni0))
  subst ge
  exact ce (bm rfl) (bH.vals (cf hr) ⟨(fun h=>absurd h (by decide)),bb,fun _=>⟨rfl,on⟩⟩)
 ·exact q9 ⟨⟨8,6,2⟩,by simp,rfl⟩ (b:=6) (v:=2) rfl rfl rfl rfl rfl rfl jA rfl (by decide) (by decide) (fun _ _ h=>⟨[.bool false,.slice ae1 m1 d1],by rw[h];rfl,rfl,(niB (niS ni0)),(ocB (ocS oc0))⟩)
 intro a w4 hF bb hall hblk hne
 have s0:=st
 replace st:=st.to bb
 have e9:=EZ hall 2 9 rfl rfl rfl
 have e12:=EZ hall 5 12 rfl rfl rfl
 obtain⟨g5,cs5,e5,ge5,o5,hc5⟩:=hblk 6 5 (by decide) rfl
 have hc5:=(hc5.2 ⟨8,6,2⟩ (by simp) rfl).2 rfl 9 rfl
 rw[e9] at hc5
 obtain rfl:cs5=[.bool false,.slice ae1 m1 d1]:=by have hx:=congrArg Array.toList hc5;exact hx.symm
 clear hc5
 replace st:=st.push o5.blk (Nat.le_trans s0.bel.size ge5) (s0.ne ge5)
 clear o5
 obtain⟨g6,cs6,e6,ge6,o6,hc6⟩:=hblk 7 6 (by decide) rfl
 obtain rfl:cs6=[.bool false,.slice none 0 0]:=hc6.1 (nW rfl)
 clear hc6
 replace st:=st.push o6.blk (Nat.le_trans s0.bel.size ge6) (jI (fun(e:g5=g6)=>hne 6 7 5 6 (by decide) (by decide) (by decide) rfl rfl (by rw[e5,e6,e])) (s0.ne ge6))
 clear o6
 clear hall hblk hne bb s0
 clear e9
 replace hF:=hF.add e12
 clear e12
 replace hF:=hF.add e5
 clear e5
 replace hF:=hF.add e6
 clear e6
 refine so st hF 0 0 2 db rfl rfl rfl rfl fun w5 a st hF=>?_
 refine ns ?_
 refine E.drawn 13 aF hF [13,14,15,16,17,18,19,20,21,22,23,24,25] [(fun _ v=>v= .pointer (some ⟨g2,0,none⟩)),(fun _ v=>v= .agg #[.bool b1,.slice ad1 n1 c1]),(fun _ v=>v= .agg #[.bool false,.slice ae2 m2 d2]),(fun w v=>Rz w v (z1*(((D2:Nat):Int)))),(fun _ v=>v= .pointer (some ⟨g3,0,none⟩)),(fun _ v=>v= .agg #[.bool b2,.slice ad2 n2 c2]),(fun _ v=>v= .agg #[.bool false,.slice ae1 m1 d1]),(fun w v=>Rz w v (z2*(((D1:Nat):Int)))),(fun w v=>Rz w v ((z1*(((D2:Nat):Int)))+(z2*(((D1:Nat):Int))))),(fun _ v=>v= .agg #[.bool false,.slice ae1 m1 d1]),(fun _ v=>v= .agg #[.bool false,.slice ae2 m2 d2]),(fun w v=>Rz w v ((((D1:Nat):Int))*(((D2:Nat):Int)))),(fun w v=>Rr w v ((((z1*(((D2:Nat):Int)))+(z2*(((D1:Nat):Int))):Int):Rat)/(((((D1:Nat):Int))*(((D2:Nat):Int)):Int):Rat)) ((max ((max (k+j) (j+k))+1) (k+j))))] [] (by decide+kernel) (by decide+kernel) rfl rfl rfl ⟨(Mb.eq _),(Mb.eq _),(Mb.eq _),(fun _ _ _ h hb=>h.below hb),(Mb.eq _),(Mb.eq _),(Mb.eq _),(fun _ _ _ h hb=>h.below hb),(fun _ _ _ h hb=>h.below hb),(Mb.eq _),(Mb.eq _),(fun _ _ _ h hb=>h.below hb),(fun _ _ _ h hb=>h.below hb),trivial⟩ trivial ⟨?_,?_,?_,?_,?_,?_,?_,?_,?_,?_,?_,?_,?_,trivial⟩ ?_
 ·intro a' w' hF' hb hd
  exact dv0 (aA (hF'.at 5 rfl) (dF (p:=0) rfl)) rfl rfl rfl
 ·intro a' w' hF' hb hd
  have e13:=tE hd 0 rfl
  exact dv0 (av e13 (bJ (vs:=[.bool b1,.slice ad1 n1 c1]) ((st.b 4 rfl rfl).below hb) rfl rfl)) rfl rfl rfl
 ·exact qL st 0 0 db rfl rfl rfl rfl rfl
 ·intro a' w' hF' hb hd
  have e14:=tE hd 0 rfl
  have e15:=tE hd 1 rfl
  exact dc0 (rk ib (aC e14 e15)) (dB _ _ _ _ k j _ (hn1.below (ar st.bel hb)) (Rz.nat (hd2.below (ar st.bel hb))) lz1 (bX lD2) (by omega) (by omega)) rfl rfl
 ·intro a' w' hF' hb hd
  exact dv0 (aA (hF'.at 4 rfl) (dF (p:=0) rfl)) rfl rfl rfl
 ·intro a' w' hF' hb hd
  have e17:=tE hd 0 rfl
  exact dv0 (av e17 (bJ (vs:=[.bool b2,.slice ad2 n2 c2]) ((st.b 3 rfl rfl).below hb) rfl rfl)) rfl rfl rfl
 ·exact qL st 1 1 db rfl rfl rfl rfl rfl
 ·intro a' w' hF' hb hd
  have e18:=tE hd 0 rfl
  have e19:=tE hd 1 rfl
  exact dc0 (rk ib (aC e18 e19)) (dB _ _ _ _ j k _ (hn2.below (ar st.bel hb)) (Rz.nat (hd1.below (ar st.bel hb))) lz2 (bX lD1) (by omega) (by omega)) rfl rfl
 ·intro a' w' hF' hb hd
  obtain⟨v16_0,e16,h16_1⟩:=tH hd 0 rfl
  obtain⟨v20_0,e20,h20_1⟩:=tH hd 1 rfl
  exact dc0 (rk nP (aC e16 e20)) (f9 _ _ _ _ (k+j) (j+k) _ h16_1 h20_1 (cG lz1 (bX lD2)) (cG lz2 (bX lD1)) (by omega) (by omega)) rfl rfl
 ·exact qL st 1 1 db rfl rfl rfl rfl rfl
 ·exact qL st 0 0 db rfl rfl rfl rfl rfl
 ·intro a' w' hF' hb hd
  have e22:=tE hd 0 rfl
  have e23:=tE hd 1 rfl
  exact dc0 (rk ib (aC e22 e23)) (dB _ _ _ _ k j _ (Rz.nat (hd1.below (ar st.bel hb))) (Rz.nat (hd2.below (ar st.bel hb))) (bX lD1) (bX lD2) (by omega) (by omega)) rfl rfl
 ·intro a' w' hF' hb hd
  obtain⟨v21_0,e21,h21_1⟩:=tH hd 0 rfl
  obtain⟨v24_0,e24,h24_1⟩:=tH hd 1 rfl
  exact dc0 (rk pg (aC e21 e24)) (kW _ _ ((z1*(((D2:Nat):Int)))+(z2*(((D1:Nat):Int)))) ((((D1:Nat):Int))*(((D2:Nat):Int))) (max ((max (k+j) (j+k))+1) (k+j)) _ h21_1 h24_1 (Lim.up (lU (cG lz1 (bX lD2)) (cG lz2 (bX lD1)) ((max (k+j) (j+k))+1) (by omega) (by omega)) _ (by omega)) (Lim.up (cG (bX lD1) (bX lD2)) _ (by omega)) (by omega)) rfl rfl
 intro a w6 hF bb hall hne
 replace st:=st.to bb
 obtain⟨vv7,hF,st⟩:=aS hall hF st 12 rfl rfl Rr.cl
 clear hall hne bb
 obtain⟨r9,rfl⟩:=Rr.fo (st.f 0 rfl)
 refine so st hF 2 4 0 ag rfl rfl rfl rfl fun w10 a st hF=>?_
 refine nr ?_
 refine rs Tryz.results62 st hF 4 2 ag rfl rfl rfl ?_
 have bel:=st.bel
 exact⟨_,rfl,Rr.cast (Rr.up (st.f 0 rfl) _ (by omega)) (by rw[hq1.out,hq2.out];exact C2 hD1 hD2),bel⟩
theorem i8 (v1 v2:Value) (q1 q2:Rat) (k j:Nat) (w:World) (h1:Rr w v1 q1 k) (h2:Rr w v2 q2 j) (hp:1≤k) (hp2:1≤j) (hk:k≤10000) (hj:j≤10000):
 Calls Tryz.prog 63 #[v1,v2] w (bK w (q1*q2) (k+j)):=by
 obtain⟨b1,ad1,n1,c1,ae1,m1,d1,z1,D1,rfl,hn1,hd1,hD1,hq1,lz1,lD1⟩:=h1.shape
 have h1:Rr w (.agg #[.bool b1,.slice ad1 n1 c1,.slice ae1 m1 d1]) q1 k:=⟨_,_,_,_,_,_,_,_,_,rfl,hn1,hd1,hD1,hq1,lz1,lD1⟩
 have ha1:=hn1.abs
 have hb1:=hn1.neg
 replace hq1:=Lib.hid hq1
 obtain⟨b2,ad2,n2,c2,ae2,m2,d2,z2,D2,rfl,hn2,hd2,hD2,hq2,lz2,lD2⟩:=h2.shape
 have h2:Rr w (.agg #[.bool b2,.slice ad2 n2 c2,.slice ae2 m2 d2]) q2 j:=⟨_,_,_,_,_,_,_,_,_,rfl,hn2,hd2,hD2,hq2,lz2,lD2⟩
 have ha2:=hn2.abs
 have hb2:=hn2.neg
 replace hq2:=Lib.hid hq2
 have st:=St.start w
 refine go2 (nt:=17) Tryz.func63 rfl rfl rfl fun a hF=>?_
 refine wq ?_
 refine bx st hF 0 rfl rfl fun g2 w1 a st hF=>?_
 refine bx st hF 2 rfl rfl fun g3 w2 a st hF=>?_
 refine S.alloc st hF ag rfl rfl fun g4 w3 a st hF=>?_
 refine ns ?_
 refine E.drawn 12 aF hF [5,6,7,8,9,10,11,12,13,14,15,16] [(fun _ v=>v= .pointer (some ⟨g2,0,none⟩)),(fun _ v=>v= .agg #[.bool b1,.slice ad1 n1 c1]),(fun _ v=>v= .pointer (some ⟨g3,0,none⟩)),(fun _ v=>v= .agg #[.bool b2,.slice ad2 n2 c2]),(fun w v=>Rz w v (z1*z2)),(fun _ v=>v= .pointer (some ⟨g2,2,none⟩)),(fun _ v=>v= .slice ae1 m1 d1),(fun _ v=>v= .pointer (some ⟨g3,2,none⟩)),(fun _ v=>v= .slice ae2 m2 d2),(fun w v=>Dg w .i64 65536 v ((D1)*(D2))),(fun w v=>Rz w v ((((D1)*(D2):Nat):Int))),(fun w v=>Rr w v (((z1*z2:Int):Rat)/(((((D1)*(D2):Nat):Int):Int):Rat)) ((k+j)))] [] (by decide+kernel) (by decide+kernel) rfl rfl rfl ⟨(Mb.eq _),(Mb.eq _),(Mb.eq _),(Mb.eq _),(fun _ _ _ h hb=>h.below hb),(Mb.eq _),(Mb.eq _),(Mb.eq _),(Mb.eq _),(fun _ _ _ h hb=>h.below hb),(fun _ _ _ h hb=>h.below hb),(fun _ _ _ h hb=>h.below hb),trivial⟩ trivial ⟨?_,?_,?_,?_,?_,?_,?_,?_,?_,?_,?_,?_,trivial⟩ ?_
 ·intro a' w' hF' hb hd
  exact dv0 (aA (hF'.at 2 rfl) (dF (p:=0) rfl)) rfl rfl rfl
 ·intro a' w' hF' hb hd
  have e5:=tE hd 0 rfl
  exact dv0 (av e5 (bJ (vs:=[.bool b1,.slice ad1 n1 c1]) ((st.b 2 rfl rfl).below hb) rfl rfl)) rfl rfl rfl
 ·intro a' w' hF' hb hd
  exact dv0 (aA (hF'.at 1 rfl) (dF (p:=0) rfl)) rfl rfl rfl
 ·intro a' w' hF' hb hd
  have e7:=tE hd 0 rfl
  exact dv0 (av e7 (bJ (vs:=[.bool b2,.slice ad2 n2 c2]) ((st.b 1 rfl rfl).below hb) rfl rfl)) rfl rfl rfl
 ·intro a' w' hF' hb hd
  have e6:=tE hd 0 rfl
  have e8:=tE hd 1 rfl
  exact dc0 (rk ib (aC e6 e8)) (dB _ _ _ _ k j _ (hn1.below (ar st.bel hb)) (hn2.below (ar st.bel hb)) lz1 lz2 (by omega) (by omega)) rfl rfl
 ·intro a' w' hF' hb hd
  exact dv0 (aA (hF'.at 2 rfl) (dS (p:=2) rfl)) rfl rfl rfl
 ·intro a' w' hF' hb hd
  have e10:=tE hd 0 rfl
  exact dv0 (av e10 (cp (v:= .slice ae1 m1 d1) ((st.b 2 rfl rfl).below hb) rfl)) rfl rfl rfl
 ·intro a' w' hF' hb hd
  exact dv0 (aA (hF'.at 1 rfl) (dS (p:=2) rfl)) rfl rfl rfl
 ·intro a' w' hF' hb hd
  have e12:=tE hd 0 rfl
  exact dv0 (av e12 (cp (v:= .slice ae2 m2 d2) ((st.b 1 rfl rfl).below hb) rfl)) rfl rfl rfl
 ·intro a' w' hF' hb hd
  have e11:=tE hd 0 rfl
  have e13:=tE hd 1 rfl
  exact dc0 (rk GX (aC e11 e13)) (td _ _ D1 D2 _ (hd1.below (ar st.bel hb)) (hd2.below (ar st.bel hb)) (Lim.dh lD1 _ (by omega)) (Lim.dh lD2 _ (by omega))) rfl rfl
 ·intro a' w' hF' hb hd
  obtain⟨v14_0,e14,h14_1⟩:=tH hd 0 rfl
  obtain⟨ad4,n4,c4,rfl⟩:=Dg.form h14_1
  exact dv0 (bh (fk e14) (eg _ _ _ _)) (Rz.nat h14_1) rfl rfl
 ·intro a' w' hF' hb hd
  obtain⟨v9_0,e9,h9_1⟩:=tH hd 0 rfl
  obtain⟨v15,e15,h15⟩:=tH hd 1 rfl
  exact dc0 (rk pg (aC e9 e15)) (kW _ _ (z1*z2) ((((D1)*(D2):Nat):Int)) (k+j) _ h9_1 h15 (Lim.up (cG lz1 lz2) _ (by omega)) (Lim.up (bX (Lim.mul lD1 lD2)) _ (by omega)) (by omega)) rfl rfl
 intro a w5 hF bb hall hne
 replace st:=st.to bb
 obtain⟨vv6,hF,st⟩:=aS hall hF st 11 rfl rfl Rr.cl
 clear hall hne bb
 obtain⟨r8,rfl⟩:=Rr.fo (st.f 0 rfl)
 refine so st hF 0 1 0 ag rfl rfl rfl rfl fun w9 a st hF=>?_
 refine nr ?_
 refine rs Tryz.results63 st hF 1 0 ag rfl rfl rfl ?_
 have bel:=st.bel
 exact⟨_,rfl,Rr.cast (Rr.up (st.f 0 rfl) _ (by omega)) (by rw[hq1.out,hq2.out];exact C8 hD1 hD2),bel⟩
theorem kE (v1 v2:Value) (q1 q2:Rat) (k j:Nat) (w:World) (h1:Rr w v1 q1 k) (h2:Rr w v2 q2 j) (hp:1≤k) (hp2:1≤j) (hk:k≤10000) (hj:j≤10000):
 Calls Tryz.prog 81 #[v1,v2] w (bK w (q1/q2) (k+j)):=by
 obtain⟨b1,ad1,n1,c1,ae1,m1,d1,z1,D1,rfl,hn1,hd1,hD1,hq1,lz1,lD1⟩:=h1.shape
 have h1:Rr w (.agg #[.bool b1,.slice ad1 n1 c1,.slice ae1 m1 d1]) q1 k:=⟨_,_,_,_,_,_,_,_,_,rfl,hn1,hd1,hD1,hq1,lz1,lD1⟩
 have ha1:=hn1.abs
 have hb1:=hn1.neg
 replace hq1:=Lib.hid hq1
 obtain⟨b2,ad2,n2,c2,ae2,m2,d2,z2,D2,rfl,hn2,hd2,hD2,hq2,lz2,lD2⟩:=h2.shape
 have h2:Rr w (.agg #[.bool b2,.slice ad2 n2 c2,.slice ae2 m2 d2]) q2 j:=⟨_,_,_,_,_,_,_,_,_,rfl,hn2,hd2,hD2,hq2,lz2,lD2⟩
 have ha2:=hn2.abs
 have hb2:=hn2.neg
 replace hq2:=Lib.hid hq2
 have st:=St.start w
 refine go2 (nt:=18) Tryz.func81 rfl rfl rfl fun a hF=>?_
 refine wq ?_
 refine bx st hF 0 rfl rfl fun g2 w1 a st hF=>?_
 refine bx st hF 2 rfl rfl fun g3 w2 a st hF=>?_
 refine S.alloc st hF ag rfl rfl fun g4 w3 a st hF=>?_
 refine ns ?_
 refine E.drawn 13 aF hF [5,6,7,8,9,10,11,12,13,14,15,16,17] [(fun _ v=>v= .pointer (some ⟨g2,0,none⟩)),(fun _ v=>v= .agg #[.bool b1,.slice ad1 n1 c1]),(fun _ v=>v= .pointer (some ⟨g3,2,none⟩)),(fun _ v=>v= .slice ae2 m2 d2),(fun _ v=>v= .agg #[.bool false,.slice ae2 m2 d2]),(fun w v=>Rz w v (z1*(((D2:Nat):Int)))),(fun _ v=>v= .pointer (some ⟨g2,2,none⟩)),(fun _ v=>v= .slice ae1 m1 d1),(fun _ v=>v= .agg #[.bool false,.slice ae1 m1 d1]),(fun _ v=>v= .pointer (some ⟨g3,0,none⟩)),(fun _ v=>v= .agg #[.bool b2,.slice ad2 n2 c2]),(fun w v=>Rz w v ((((D1:Nat):Int))*z2)),(fun w v=>Rr w v (((z1*(((D2:Nat):Int)):Int):Rat)/(((((D1:Nat):Int))*z2:Int):Rat)) ((k+j)))] [] (by decide+kernel) (by decide+kernel) rfl rfl rfl ⟨(Mb.eq _),(Mb.eq _),(Mb.eq _),(Mb.eq _),(Mb.eq _),(fun _ _ _ h hb=>h.below hb),(Mb.eq _),(Mb.eq _),(Mb.eq _),(Mb.eq _),(Mb.eq _),(fun _ _ _ h hb=>h.below hb),(fun _ _ _ h hb=>h.below hb),trivial⟩ trivial ⟨?_,?_,?_,?_,?_,?_,?_,?_,?_,?_,?_,?_,?_,trivial⟩ ?_
 ·intro a' w' hF' hb hd
  exact dv0 (aA (hF'.at 2 rfl) (dF (p:=0) rfl)) rfl rfl rfl
 ·intro a' w' hF' hb hd
  have e5:=tE hd 0 rfl
  exact dv0 (av e5 (bJ (vs:=[.bool b1,.slice ad1 n1 c1]) ((st.b 2 rfl rfl).below hb) rfl rfl)) rfl rfl rfl
 ·intro a' w' hF' hb hd
  exact dv0 (aA (hF'.at 1 rfl) (dS (p:=2) rfl)) rfl rfl rfl
 ·intro a' w' hF' hb hd
  have e7:=tE hd 0 rfl
  exact dv0 (av e7 (cp (v:= .slice ae2 m2 d2) ((st.b 1 rfl rfl).below hb) rfl)) rfl rfl rfl
 ·intro a' w' hF' hb hd
  have e8:=tE hd 0 rfl
  exact dv0 (bh (fk e8) (eg _ _ _ _)) rfl rfl rfl
 ·intro a' w' hF' hb hd
  have e6:=tE hd 0 rfl
  have e9:=tE hd 1 rfl
  exact dc0 (rk ib (aC e6 e9)) (dB _ _ _ _ k j _ (hn1.below (ar st.bel hb)) (Rz.nat (hd2.below (ar st.bel hb))) lz1 (bX lD2) (by omega) (by omega)) rfl rfl
 ·intro a' w' hF' hb hd
  exact dv0 (aA (hF'.at 2 rfl) (dS (p:=2) rfl)) rfl rfl rfl
 ·intro a' w' hF' hb hd
  have e11:=tE hd 0 rfl
  exact dv0 (av e11 (cp (v:= .slice ae1 m1 d1) ((st.b 2 rfl rfl).below hb) rfl)) rfl rfl rfl
 ·intro a' w' hF' hb hd
  have e12:=tE hd 0 rfl
  exact dv0 (bh (fk e12) (eg _ _ _ _)) rfl rfl rfl
 ·intro a' w' hF' hb hd
  exact dv0 (aA (hF'.at 1 rfl) (dF (p:=0) rfl)) rfl rfl rfl
 ·intro a' w' hF' hb hd
  have e14:=tE hd 0 rfl
  exact dv0 (av e14 (bJ (vs:=[.bool b2,.slice ad2 n2 c2]) ((st.b 1 rfl rfl).below hb) rfl rfl)) rfl rfl rfl
 ·intro a' w' hF' hb hd
  have e13:=tE hd 0 rfl
  have e15:=tE hd 1 rfl
  exact dc0 (rk ib (aC e13 e15)) (dB _ _ _ _ k j _ (Rz.nat (hd1.below (ar st.bel hb))) (hn2.below (ar st.bel hb)) (bX lD1) lz2 (by omega) (by omega)) rfl rfl
 ·intro a' w' hF' hb hd
  obtain⟨v10_0,e10,h10_1⟩:=tH hd 0 rfl
  obtain⟨v16_0,e16,h16_1⟩:=tH hd 1 rfl
  exact dc0 (rk pg (aC e10 e16)) (kW _ _ (z1*(((D2:Nat):Int))) ((((D1:Nat):Int))*z2) (k+j) _ h10_1 h16_1 (Lim.up (cG lz1 (bX lD2)) _ (by omega)) (Lim.up (cG (bX lD1) lz2) _ (by omega)) (by omega)) rfl rfl
 intro a w4 hF bb hall hne
 replace st:=st.to bb
 obtain⟨vv5,hF,st⟩:=aS hall hF st 12 rfl rfl Rr.cl
 clear hall hne bb
 obtain⟨r7,rfl⟩:=Rr.fo (st.f 0 rfl)
 refine so st hF 0 1 0 ag rfl rfl rfl rfl fun w8 a st hF=>?_
 refine nr ?_
 refine rs Tryz.results81 st hF 1 0 ag rfl rfl rfl ?_
 have bel:=st.bel
 exact⟨_,rfl,Rr.cast (Rr.up (st.f 0 rfl) _ (by omega)) (by rw[hq1.out,hq2.out];exact D8 hD1 hD2),bel⟩
theorem kv (v1 v2:Value) (q1 q2:Rat) (k j:Nat) (w:World) (h1:Rr w v1 q1 k) (h2:Rr w v2 q2 j) (hk:k≤10000) (hj:j≤10000):
 Calls Tryz.prog 196 #[v1,v2] w (gN w (qc q1 q2)):=by
 obtain⟨b1,ad1,n1,c1,ae1,m1,d1,z1,D1,rfl,hn1,hd1,hD1,hq1,lz1,lD1⟩:=h1.shape
 have h1:Rr w (.agg #[.bool b1,.slice ad1 n1 c1,.slice ae1 m1 d1]) q1 k:=⟨_,_,_,_,_,_,_,_,_,rfl,hn1,hd1,hD1,hq1,lz1,lD1⟩
 have ha1:=hn1.abs
 have hb1:=hn1.neg
 replace hq1:=Lib.hid hq1
 obtain⟨b2,ad2,n2,c2,ae2,m2,d2,z2,D2,rfl,hn2,hd2,hD2,hq2,lz2,lD2⟩:=h2.shape
 have h2:Rr w (.agg #[.bool b2,.slice ad2 n2 c2,.slice ae2 m2 d2]) q2 j:=⟨_,_,_,_,_,_,_,_,_,rfl,hn2,hd2,hD2,hq2,lz2,lD2⟩
 have ha2:=hn2.abs
 have hb2:=hn2.neg
 replace hq2:=Lib.hid hq2
 have st:=St.start w
 refine go2 (nt:=18) Tryz.func196 rfl rfl rfl fun a hF=>?_
 refine wq ?_
 refine bx st hF 0 rfl rfl fun g2 w1 a st hF=>?_
 refine bx st hF 2 rfl rfl fun g3 w2 a st hF=>?_
 refine oC hF rfl fun a hF=>?_
 refine ns ?_
 refine E.drawn 13 aF hF [5,6,7,8,9,10,11,12,13,14,15,16,17] [(fun _ v=>v= .pointer (some ⟨g2,0,none⟩)),(fun _ v=>v= .agg #[.bool b1,.slice ad1 n1 c1]),(fun _ v=>v= .pointer (some ⟨g3,2,none⟩)),(fun _ v=>v= .slice ae2 m2 d2),(fun _ v=>v= .agg #[.bool false,.slice ae2 m2 d2]),(fun w v=>Rz w v (z1*(((D2:Nat):Int)))),(fun _ v=>v= .pointer (some ⟨g3,0,none⟩)),(fun _ v=>v= .agg #[.bool b2,.slice ad2 n2 c2]),(fun _ v=>v= .pointer (some ⟨g2,2,none⟩)),(fun _ v=>v= .slice ae1 m1 d1),(fun _ v=>v= .agg #[.bool false,.slice ae1 m1 d1]),(fun w v=>Rz w v (z2*(((D1:Nat):Int)))),(fun _ v=>v= .int .i64 (ci (z1*(((D2:Nat):Int))) (z2*(((D1:Nat):Int)))))] [] (by decide+kernel) (by decide+kernel) rfl rfl rfl ⟨(Mb.eq _),(Mb.eq _),(Mb.eq _),(Mb.eq _),(Mb.eq _),(fun _ _ _ h hb=>h.below hb),(Mb.eq _),(Mb.eq _),(Mb.eq _),(Mb.eq _),(Mb.eq _),(fun _ _ _ h hb=>h.below hb),(Mb.eq _),trivial⟩ trivial ⟨?_,?_,?_,?_,?_,?_,?_,?_,?_,?_,?_,?_,?_,trivial⟩ ?_
 ·intro a' w' hF' hb hd
  exact dv0 (aA (hF'.at 2 rfl) (dF (p:=0) rfl)) rfl rfl rfl
 ·intro a' w' hF' hb hd
  have e5:=tE hd 0 rfl
  exact dv0 (av e5 (bJ (vs:=[.bool b1,.slice ad1 n1 c1]) ((st.b 1 rfl rfl).below hb) rfl rfl)) rfl rfl rfl
 ·intro a' w' hF' hb hd
  exact dv0 (aA (hF'.at 1 rfl) (dS (p:=2) rfl)) rfl rfl rfl
 ·intro a' w' hF' hb hd
  have e7:=tE hd 0 rfl
  exact dv0 (av e7 (cp (v:= .slice ae2 m2 d2) ((st.b 0 rfl rfl).below hb) rfl)) rfl rfl rfl
 ·intro a' w' hF' hb hd
  have e8:=tE hd 0 rfl
  exact dv0 (bh (fk e8) (eg _ _ _ _)) rfl rfl rfl
 ·intro a' w' hF' hb hd
  have e6:=tE hd 0 rfl
  have e9:=tE hd 1 rfl
  exact dc0 (rk ib (aC e6 e9)) (dB _ _ _ _ k j _ (hn1.below (ar st.bel hb)) (Rz.nat (hd2.below (ar st.bel hb))) lz1 (bX lD2) (by omega) (by omega)) rfl rfl
 ·intro a' w' hF' hb hd
  exact dv0 (aA (hF'.at 1 rfl) (dF (p:=0) rfl)) rfl rfl rfl
 ·intro a' w' hF' hb hd
  have e11:=tE hd 0 rfl
  exact dv0 (av e11 (bJ (vs:=[.bool b2,.slice ad2 n2 c2]) ((st.b 0 rfl rfl).below hb) rfl rfl)) rfl rfl rfl
 ·intro a' w' hF' hb hd
  exact dv0 (aA (hF'.at 2 rfl) (dS (p:=2) rfl)) rfl rfl rfl
 ·intro a' w' hF' hb hd
  have e13:=tE hd 0 rfl
  exact dv0 (av e13 (cp (v:= .slice ae1 m1 d1) ((st.b 1 rfl rfl).below hb) rfl)) rfl rfl rfl
 ·intro a' w' hF' hb hd
  have e14:=tE hd 0 rfl
  exact dv0 (bh (fk e14) (eg _ _ _ _)) rfl rfl rfl
 ·intro a' w' hF' hb hd
  have e12:=tE hd 0 rfl
  have e15:=tE hd 1 rfl
  exact dc0 (rk ib (aC e12 e15)) (dB _ _ _ _ j k _ (hn2.below (ar st.bel hb)) (Rz.nat (hd1.below (ar st.bel hb))) lz2 (bX lD1) (by omega) (by omega)) rfl rfl
 ·intro a' w' hF' hb hd
  obtain⟨v10_0,e10,h10_1⟩:=tH hd 0 rfl
  obtain⟨v16_0,e16,h16_1⟩:=tH hd 1 rfl
  exact iv (rk GH (aC e10 e16)) (qN _ _ _ _ (k+j) (j+k) _ h10_1 h16_1 (cG lz1 (bX lD2)) (cG lz2 (bX lD1)) (by omega) (by omega)) (fun _=>rfl) rfl rfl
 intro a w3 hF bb hall hne
 replace st:=st.to bb
 replace hF:=aE hall hF 12 rfl rfl
 clear hall hne bb
 refine oE hF 0 rfl rfl fun a hF=>?_
 refine nr ?_
 have bel:=st.bel
 refine rt Tryz.results196 hF 0 rfl ?_
 exact⟨by rw[hq1.out,hq2.out,←Bp hD1 hD2],bel⟩
theorem gQ (v1 v2:Value) (q1 q2:Rat) (k j:Nat) (w:World) (h1:Rr w v1 q1 k) (h2:Rr w v2 q2 j) (hp:1≤k) (hp2:1≤j) (hk:k≤10000) (hj:j≤10000):
 Calls Tryz.prog 80 #[v1,v2] w (bK w (q1-q2) (k+j+1)):=by
 obtain⟨r1,rfl⟩:=h1.fo
 obtain⟨r2,rfl⟩:=h2.fo
 have st:=St.start w
 refine go2 (nt:=9) Tryz.func80 rfl rfl rfl fun a hF=>?_
 refine wq ?_
 refine bx st hF 0 rfl rfl fun g2 w1 a st hF=>?_
 refine bx st hF 2 rfl rfl fun g3 w2 a st hF=>?_
 refine S.alloc st hF ag rfl rfl fun g4 w3 a st hF=>?_
 refine ns ?_
 refine eD 4 aF hF [5,6,7,8] [(Iz r1.v),(Iz r2.v),(Ir (-(q2)) (j)),(Ir ((q1)+(-(q2))) ((k+j+1)))] [] (by decide+kernel) rfl rfl trivial ⟨?_,?_,?_,?_,trivial⟩ ?_
 ·exact qL st 2 2 ag rfl rfl rfl rfl rfl
 ·exact qL st 1 1 ag rfl rfl rfl rfl rfl
 ·intro a' w' hF' hb hd
  have e6:=tE hd 0 rfl
  exact dc0 (rk CN (aI e6)) (j4 _ (q2) j _ (h2.below (ar st.bel hb))) rfl rfl
 ·intro a' w' hF' hb hd
  have e5:=tE hd 0 rfl
  obtain⟨v7_0,e7,h7_1⟩:=tH hd 1 rfl
  exact dc0 (rk xA (aC e5 e7)) (je _ _ (q1) (-(q2)) k j _ (h1.below (ar st.bel hb)) h7_1 (by omega) (by omega) (by omega) (by omega)) rfl rfl
 intro a w4 hF bb hall hne
 replace st:=st.to bb
 obtain⟨vv5,hF,st⟩:=aS hall hF st 3 rfl rfl Rr.cl
 clear hall hne bb
 obtain⟨r7,rfl⟩:=Rr.fo (st.f 0 rfl)
 refine so st hF 0 1 0 ag rfl rfl rfl rfl fun w8 a st hF=>?_
 refine nr ?_
 refine rs Tryz.results80 st hF 1 0 ag rfl rfl rfl ?_
 have bel:=st.bel
 exact⟨_,rfl,Rr.cast (st.f 0 rfl) (Rat.sub_eq_add_neg q1 q2).symm,bel⟩
theorem mu (v1 v2:Value) (q1 q2:Rat) (k j i l:Nat) (w:World) (h1:Rr w v1 q1 k) (h2:Rr w v2 q2 j) (li1:au q1 i) (li2:au q2 l) (hp:1≤k) (hp2:1≤j) (hk:k≤4000) (hj:j≤100) (hi:i≤2000) (hl:l≤100):
 Calls Tryz.prog 149 #[v1,v2] w (bK w (rmod q1 q2) (k+j+i+l+3)):=by
 obtain⟨b1,ad1,n1,c1,ae1,m1,d1,z1,D1,rfl,hn1,hd1,hD1,hq1,lz1,lD1⟩:=h1.shape
 have h1:Rr w (.agg #[.bool b1,.slice ad1 n1 c1,.slice ae1 m1 d1]) q1 k:=⟨_,_,_,_,_,_,_,_,_,rfl,hn1,hd1,hD1,hq1,lz1,lD1⟩
 have ha1:=hn1.abs
 have hb1:=hn1.neg
 replace hq1:=Lib.hid hq1
 obtain⟨b2,ad2,n2,c2,ae2,m2,d2,z2,D2,rfl,hn2,hd2,hD2,hq2,lz2,lD2⟩:=h2.shape
 have h2:Rr w (.agg #[.bool b2,.slice ad2 n2 c2,.slice ae2 m2 d2]) q2 j:=⟨_,_,_,_,_,_,_,_,_,rfl,hn2,hd2,hD2,hq2,lz2,lD2⟩
 have ha2:=hn2.abs
 have hb2:=hn2.neg
 replace hq2:=Lib.hid hq2
 by_cases h0:sz (Rat.num (q2))≤0
 ·have st:=St.start w
  refine go2 (nt:=18) Tryz.func149 rfl rfl rfl fun a hF=>?_
  refine wq ?_
  refine bx st hF 0 rfl rfl fun g2 w1 a st hF=>?_
  refine bx st hF 2 rfl rfl fun g3 w2 a st hF=>?_
  refine S.alloc st hF ag rfl rfl fun g4 w3 a st hF=>?_
  refine ns ?_
  refine wq ?_
  refine oL hF st 1 1 ag rfl rfl rfl rfl fun a hF=>?_
  refine cX st hF (rk rx (aI (hF.at 0 rfl))) (fT _ (q2) j _ (h2.below st.bel)) rfl fun w4 a st hF=>?_
  refine oV hF (aq (hF.at 0 rfl) ao ab (aw (cn (c:=true) (aU h0)) (by simp))) rfl fun a hF=>?_
  refine E.nil ?_
  refine wp_cond_true (hF.at 0 rfl) ?_
  refine wq ?_
  refine ca st hF (rk fY (aC ao ao)) (a5 (0) _ (by decide) (by decide)) (fun _ _ h=>h) Rr.cl rfl fun vv6 w5 a st hF=>?_
  obtain⟨r8,rfl⟩:=Rr.fo (st.f 0 rfl)
  refine so st hF 0 4 0 ag rfl rfl rfl rfl fun w9 a st hF=>?_
  refine nr ?_
  refine rs Tryz.results149 st hF 4 0 ag rfl rfl rfl ?_
  have bel:=st.bel
  exact⟨_,rfl,Rr.cast (Rr.up (st.f 0 rfl) _ (by omega)) (Rat.intCast_zero.trans (uR h0)),bel⟩
 ·have st:=St.start w
  refine go2 (nt:=18) Tryz.func149 rfl rfl rfl fun a hF=>?_
  refine wq ?_
  refine bx st hF 0 rfl rfl fun g2 w1 a st hF=>?_
  refine bx st hF 2 rfl rfl fun g3 w2 a st hF=>?_
  refine S.alloc st hF ag rfl rfl fun g4 w3 a st hF=>?_
  refine ns ?_
  refine wq ?_
  refine oL hF st 1 1 ag rfl rfl rfl rfl fun a hF=>?_
  refine cX st hF (rk rx (aI (hF.at 0 rfl))) (fT _ (q2) j _ (h2.below st.bel)) rfl fun w4 a st hF=>?_
  refine oV hF (aq (hF.at 0 rfl) ao ab (aw (cn (c:=false) (aK h0)) (by simp))) rfl fun a hF=>?_
  refine E.nil ?_
  refine wp_cond_false (hF.at 0 rfl) ?_
  refine wp_skip ?_
  refine E.norm ?_
  refine wp_seq ?_
  refine E.drawn 9 aF hF [9,10,11,12,13,14,15,16,17] [(fun _ v=>v= .agg #[.bool b1,.slice ad1 n1 c1,.slice ae1 m1 d1]),(fun _ v=>v= .agg #[.bool b2,.slice ad2 n2 c2,.slice ae2 m2 d2]),(fun _ v=>v= .agg #[.bool b1,.slice ad1 n1 c1,.slice ae1 m1 d1]),(fun _ v=>v= .agg #[.bool b2,.slice ad2 n2 c2,.slice ae2 m2 d2]),(fun w v=>Rr w v ((q1)/(q2)) ((k+j))),(fun w v=>Rz w v (Rat.floor ((q1)/(q2)))),(fun w v=>Rr w v (((Rat.floor ((q1)/(q2)):Int):Rat)) ((((i+l)+1)+1))),(fun w v=>Rr w v ((q2)*(((Rat.floor ((q1)/(q2)):Int):Rat))) ((j+(((i+l)+1)+1)))),(fun w v=>Rr w v ((q1)-((q2)*(((Rat.floor ((q1)/(q2)):Int):Rat)))) ((k+(j+(((i+l)+1)+1))+1)))] [] (by decide+kernel) (by decide+kernel) rfl rfl rfl ⟨(Mb.eq _),(Mb.eq _),(Mb.eq _),(Mb.eq _),(fun _ _ _ h hb=>h.below hb),(fun _ _ _ h hb=>h.below hb),(fun _ _ _ h hb=>h.below hb),(fun _ _ _ h hb=>h.below hb),(fun _ _ _ h hb=>h.below hb),trivial⟩ trivial ⟨?_,?_,?_,?_,?_,?_,?_,?_,?_,trivial⟩ ?_
  ·exact qL st 5 2 ag rfl rfl rfl rfl rfl
  ·exact qL st 4 1 ag rfl rfl rfl rfl rfl
  ·exact qL st 5 2 ag rfl rfl rfl rfl rfl
  ·exact qL st 4 1 ag rfl rfl rfl rfl rfl
  ·intro a' w' hF' hb hd
   have e11:=tE hd 0 rfl
   have e12:=tE hd 1 rfl
   exact dc0 (rk AL (aC e11 e12)) (kE _ _ (q1) (q2) k j _ (h1.below (ar st.bel hb)) (h2.below (ar st.bel hb)) (by omega) (by omega) (by omega) (by omega)) rfl rfl
  ·intro a' w' hF' hb hd
   obtain⟨v13_0,e13,h13_1⟩:=tH hd 0 rfl
   exact dc0 (rk Ci (aI e13)) (ik _ _ (k+j) _ h13_1 (by omega) (by omega)) rfl rfl
  ·intro a' w' hF' hb hd
   obtain⟨v14_0,e14,h14_1⟩:=tH hd 0 rfl
   exact dc0 (rk Hr (aI e14)) (lE _ (Rat.floor ((q1)/(q2))) (((i+l)+1)+1) _ h14_1 (Lim.up (ft (cF li1 li2)) _ (by omega)) (by omega)) rfl rfl
  ·intro a' w' hF' hb hd
   have e10:=tE hd 0 rfl
   obtain⟨v15_0,e15,h15_1⟩:=tH hd 1 rfl
   exact dc0 (rk wE (aC e10 e15)) (i8 _ _ (q2) _ j (((i+l)+1)+1) _ (h2.below (ar st.bel hb)) h15_1 (by omega) (by omega) (by omega) (by omega)) rfl rfl
  ·intro a' w' hF' hb hd
   have e9:=tE hd 0 rfl
   obtain⟨v16_0,e16,h16_1⟩:=tH hd 1 rfl
   exact dc0 (rk tI (aC e9 e16)) (gQ _ _ (q1) _ k (j+(((i+l)+1)+1)) _ (h1.below (ar st.bel hb)) h16_1 (by omega) (by omega) (by omega) (by omega)) rfl rfl
  intro a w5 hF bb hall hne
  replace st:=st.to bb
  obtain⟨vv6,hF,st⟩:=aS hall hF st 8 rfl rfl Rr.cl
  clear hall hne bb
  obtain⟨r8,rfl⟩:=Rr.fo (st.f 0 rfl)
  refine so st hF 0 4 0 ag rfl rfl rfl rfl fun w9 a st hF=>?_
  refine nr ?_
  refine rs Tryz.results149 st hF 4 0 ag rfl rfl rfl ?_
  have bel:=st.bel
  exact⟨_,rfl,Rr.cast (Rr.up (st.f 0 rfl) _ (by omega)) (tv h0),bel⟩
end Go.Proofs.YtnljadejcfgmaaaGreatDoor
