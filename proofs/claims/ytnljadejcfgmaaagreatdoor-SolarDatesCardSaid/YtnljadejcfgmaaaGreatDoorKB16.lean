import Derived.Test.YtnljadejcfgmaaaGreatDoorKB15
namespace Go.Proofs.YtnljadejcfgmaaaGreatDoor
open Go.RowKit
set_option maxRecDepth 100000
set_option linter.unusedVariables false
set_option maxHeartbeats 8000000
section
section
theorem Ce {q:Rat} {z:Int} {D:Nat} (h:q=mkRat z D) (hD:0<D):q.num*(D:Int)=z*(q.den:Int):=by
 have h2:mkRat q.num q.den=mkRat z D:=by rw[Rat.mkRat_self];exact h
 exact(Rat.mkRat_eq_iff q.den_nz (by omega)).1 h2
theorem yD (nega1:Bool) (aa1:Option Addr) (na1 ca1:Nat) (xa1:List Nat) (negb1:Bool) (ab1:Option Addr) (nb1 cb1:Nat) (xb1:List Nat) (m:Nat) (w:World) (ia1:InX w aa1 na1 ca1 xa1) (ib1:InX w ab1 nb1 cb1 xb1) (hm:m≤1000) (hm1:1≤m):
 Calls Tryz.prog 128 #[.agg #[.bool nega1,.slice aa1 na1 ca1,.bool negb1,.slice ab1 nb1 cb1],.int .i64 (m:Nat)] w (bK w ((hO nega1 xa1 m:Rat)/(hO negb1 xb1 m:Rat)) m):=by
 have oka1:=ia1.ok
 have okb1:=ib1.ok
 have st:=St.start w
 refine go2 (nt:=14) Tryz.func128 rfl rfl rfl fun a hF=>?_
 refine wq ?_
 refine bx st hF 0 rfl rfl fun g2 w1 a st hF=>?_
 refine S.alloc st hF ag rfl rfl fun g4 w2 a st hF=>?_
 refine ns ?_
 refine E.drawn 9 aF hF [5,6,7,8,9,10,11,12,13] [(fun _ v=>v= .pointer (some ⟨g2,0,none⟩)),(fun _ v=>v= .agg #[.bool nega1,.slice aa1 na1 ca1]),(fun _ v=>v= .int .i64 ((m:Nat):Int)),(fun w v=>Rz w v (hO nega1 xa1 m)),(fun _ v=>v= .pointer (some ⟨g2,2,none⟩)),(fun _ v=>v= .agg #[.bool negb1,.slice ab1 nb1 cb1]),(fun _ v=>v= .int .i64 ((m:Nat):Int)),(fun w v=>Rz w v (hO negb1 xb1 m)),(fun w v=>Rr w v (((hO nega1 xa1 m:Int):Rat)/((hO negb1 xb1 m:Int):Rat)) (m))] [] (by decide+kernel) (by decide+kernel) rfl rfl rfl ⟨(Mb.eq _),(Mb.eq _),(Mb.eq _),(fun _ _ _ h hb=>h.below hb),(Mb.eq _),(Mb.eq _),(Mb.eq _),(fun _ _ _ h hb=>h.below hb),(fun _ _ _ h hb=>h.below hb),trivial⟩ trivial ⟨?_,?_,?_,?_,?_,?_,?_,?_,?_,trivial⟩ ?_
 ·intro a' w' hF' hb hd
  exact dv0 (aA (hF'.at 1 rfl) (yy (p:=0) rfl)) rfl rfl rfl
 ·intro a' w' hF' hb hd
  have e5:=tE hd 0 rfl
  exact dv0 (av e5 (xR (vs:=[.bool nega1,.slice aa1 na1 ca1]) ((st.b 1 rfl rfl).below hb) rfl rfl)) rfl rfl rfl
 ·exact qM 3 rfl rfl rfl
 ·intro a' w' hF' hb hd
  have e6:=tE hd 0 rfl
  have e7:=tE hd 1 rfl
  exact dc0 (rk Co (aC e6 e7)) (rO nega1 aa1 na1 ca1 m xa1 _ (ia1.below (ar st.bel hb)) (by omega)) rfl rfl
 ·intro a' w' hF' hb hd
  exact dv0 (aA (hF'.at 1 rfl) (yw (p:=2) rfl)) rfl rfl rfl
 ·intro a' w' hF' hb hd
  have e9:=tE hd 0 rfl
  exact dv0 (av e9 (xR (vs:=[.bool negb1,.slice ab1 nb1 cb1]) ((st.b 1 rfl rfl).below hb) rfl rfl)) rfl rfl rfl
 ·exact qM 3 rfl rfl rfl
 ·intro a' w' hF' hb hd
  have e10:=tE hd 0 rfl
  have e11:=tE hd 1 rfl
  exact dc0 (rk Co (aC e10 e11)) (rO negb1 ab1 nb1 cb1 m xb1 _ (ib1.below (ar st.bel hb)) (by omega)) rfl rfl
 ·intro a' w' hF' hb hd
  obtain⟨v8_0,e8,h8_1⟩:=tH hd 0 rfl
  obtain⟨v12_0,e12,h12_1⟩:=tH hd 1 rfl
  exact dc0 (rk pg (aC e8 e12)) (kW _ _ (hO nega1 xa1 m) (hO negb1 xb1 m) m _ h8_1 h12_1 (Lim.up (qB nega1 oka1 m) _ (by omega)) (Lim.up (qB negb1 okb1 m) _ (by omega)) (by omega)) rfl rfl
 intro a w3 hF bb hall hne
 replace st:=st.to bb
 obtain⟨vv4,hF,st⟩:=aS hall hF st 8 rfl rfl Rr.cl
 clear hall hne bb
 obtain⟨r6,rfl⟩:=Rr.fo (st.f 0 rfl)
 refine so st hF 0 1 0 ag rfl rfl rfl rfl fun w7 a st hF=>?_
 refine nr ?_
 refine rs Tryz.results128 st hF 1 0 ag rfl rfl rfl ?_
 have bel:=st.bel
 have hh5:=(st.f 0 rfl)
 exact⟨_,rfl,hh5,bel⟩
theorem EB (v1 v2:Value) (q1 q2:Rat) (k1 k2:Nat) (w:World) (h1:Rq w v1 q1) (h2:Rr w v2 q2 k2) (l1:au q1 k1) (e:q1=q2) (hk1:k1≤20000) (hk2:k2≤20000):
 Calls Tryz.prog 19 #[v1,v2] w (BG w):=by
 obtain⟨b1,ad1,n1,c1,ae1,m1,d1,rfl,hn1,hd1⟩:=h1.shape
 have h1:Rq w (.agg #[.bool b1,.slice ad1 n1 c1,.slice ae1 m1 d1]) q1:=⟨_,_,_,_,_,_,_,rfl,hn1,hd1⟩
 have ha1:=hn1.abs
 have hb1:=hn1.neg
 replace h2:Rr w v2 q1 k2:=h2.cast e.symm
 clear e q2
 obtain⟨b2,ad2,n2,c2,ae2,m2,d2,z2,D2,rfl,hn2,hd2,hD2,hq2,lz2,lD2⟩:=h2.shape
 have h2:Rr w (.agg #[.bool b2,.slice ad2 n2 c2,.slice ae2 m2 d2]) q1 k2:=⟨_,_,_,_,_,_,_,_,_,rfl,hn2,hd2,hD2,hq2,lz2,lD2⟩
 have ha2:=hn2.abs
 have hb2:=hn2.neg
 replace hq2:=Lib.hid hq2
 have HX:=Lib.hid (Ce hq2.out hD2)
 have hdl:=dH (by decide:2≤2) (Rat.den_pos q1)
 have st:=St.start w
 refine go2 (nt:=45) Tryz.func19 rfl rfl rfl fun a hF=>?_
 refine wq ?_
 refine bx st hF 0 rfl rfl fun g2 w1 a st hF=>?_
 refine bx st hF 2 rfl rfl fun g3 w2 a st hF=>?_
 refine oC hF rfl fun a hF=>?_
 refine ns ?_
 refine E.drawn 5 aF hF [9,10,11,12,5] [(fun _ v=>v= .agg #[.bool b1,.slice ad1 n1 c1,.slice ae1 m1 d1]),(fun w v=>Wc w v (Rat.num (q1))),(fun _ v=>v= .agg #[.bool b1,.slice ad1 n1 c1,.slice ae1 m1 d1]),(fun w v=>Dg w .u32 B32 v (Rat.den (q1))),(fun w v=>∃g,v= .pointer (some ⟨g,0,none⟩)∧w2.heap.size≤g∧Own w g [.bool false,.slice none 0 0])] [4] (by decide+kernel) (by decide+kernel) rfl rfl rfl ⟨(Mb.eq _),(fun _ _ _ h hb=>h.below hb),(Mb.eq _),(fun _ _ _ h hb=>h.below hb),(fun _ _ _ ⟨g,e,l,o⟩ hb=>⟨g,e,l,o.below hb⟩),trivial⟩ ⟨fun _ _ ⟨g,e,_,o⟩=>⟨g,e,o.lt⟩,trivial⟩ ⟨?_,?_,?_,?_,?_,trivial⟩ ?_
 ·exact qL st 2 1 ah rfl rfl rfl rfl rfl
 ·intro a' w' hF' hb hd
  have e9:=tE hd 0 rfl
  exact dc0 (rk FH (aI e9)) (sO _ (q1) _ (h1.below (ar st.bel hb))) rfl rfl
 ·exact qL st 2 1 ah rfl rfl rfl rfl rfl
 ·intro a' w' hF' hb hd
  have e11:=tE hd 0 rfl
  exact dc0 (rk vQ (aI e11)) (lT _ (q1) _ (h1.below (ar st.bel hb))) rfl rfl
 ·intro a' w' hF' hb hd
  exact da0 cA rfl hb.size rfl
 intro a w3 hF bb hall hne
 have s0:=st
 replace st:=st.to bb
 obtain⟨vv4,hF,st⟩:=aS hall hF st 1 rfl rfl Wc.cl
 obtain⟨vv6,hF,st⟩:=aS hall hF st 3 rfl rfl Dg.cl
 obtain⟨_,e5,g5,rfl,ge5,o5⟩:=sS hall 4 5 rfl rfl
 replace st:=st.push o5.blk (Nat.le_trans s0.bel.size ge5) (s0.ne ge5)
 clear o5
 clear hall hne bb s0
 obtain⟨ad8,n8,c8,rfl,_⟩:=Wc.shape (st.f 1 rfl)
 obtain⟨ad9,n9,c9,rfl⟩:=Dg.form (st.f 0 rfl)
 replace hF:=hF.add e5
 clear e5
 refine so st hF 0 0 2 cA rfl rfl rfl rfl fun w10 a st hF=>?_
 have hf11:=Wc.abs (st.f 1 rfl)
 replace st:=st.add hf11 (Dg.cl _)
 clear hf11
 refine oA hF 1 rfl rfl fun a hF=>?_
 refine ns ?_
 refine wq ?_
 refine oM hF 0 rfl rfl fun a hF=>?_
 refine cX st hF (rk IJ (aI (hF.at 0 rfl))) (vX (iH _ (Rat.den (q1)) _ (Dg.nt (st.f 1 rfl)))) rfl fun w12 a st hF=>?_
 refine oV hF (aq (hF.at 0 rfl) ao ab (aw (aX (c:=false) (jk (by omega))) (by simp))) rfl fun a hF=>?_
 refine oM hF 0 rfl rfl fun a hF=>?_
 refine E.opvg hF (aA (hF.at 5 rfl) (cU (p:=1) rfl)) (aa rfl rfl (hF.at 0 rfl) rfl) rfl rfl rfl fun a hF=>?_
 refine E.opvg hF (av (hF.at 0 rfl) (cK (v:= .slice ad8 n8 c8) (st.b 0 rfl rfl) rfl)) (aa rfl rfl (hF.at 1 rfl) rfl) rfl rfl rfl fun a hF=>?_
 refine E.opvg hF (aP (hF.at 6 rfl)) (aa rfl rfl (hF.at 2 rfl) rfl) rfl rfl rfl fun a hF=>?_
 refine S.callg st hF (aa rfl rfl (hF.at 3 rfl) rfl) (rk pS (aC (hF.at 1 rfl) (hF.at 0 rfl))) (jF _ _ (Int.natAbs (Rat.num (q1))) (Rat.den (q1)) _ (Dg.nt (st.f 0 rfl)) (Dg.nt (st.f 1 rfl))) (fun _ _ h=>h) Dg.cl rfl rfl rfl fun vv14 w13 a st hF=>?_
 obtain⟨ad16,n16,c16,rfl⟩:=Dg.form (st.f 0 rfl)
 refine S.callg st hF (aa rfl rfl (hF.at 4 rfl) rfl) (rk BK (aI ao)) (k7 1 _ (by decide)) (fun _ _ h=>h) Dg.cl rfl rfl rfl fun vv18 w17 a st hF=>?_
 obtain⟨ad20,n20,c20,rfl⟩:=Dg.form (st.f 0 rfl)
 refine S.callxg st hF (aa rfl rfl (hF.at 5 rfl) rfl) (rk Bx (aC (hF.at 1 rfl) (hF.at 0 rfl))) (kK (jz _ _ (Nat.gcd (Int.natAbs (Rat.num (q1))) (Rat.den (q1))) 1 _ (Dg.nt (st.f 1 rfl)) (Dg.nt (st.f 0 rfl)))) rfl rfl rfl fun w21 a st hF=>?_
 refine E.opvg hF (aq (hF.at 0 rfl) ao ab (aw (en (c:=false) (ne0 (ze q1.reduced))) (by simp))) (aa rfl rfl (hF.at 6 rfl) rfl) rfl rfl rfl fun a hF=>?_
 refine oV hF (aQ (hF.at 7 rfl) (hF.at 0 rfl)) rfl fun a hF=>?_
 refine E.nil ?_
 refine wp_cond_false (hF.at 0 rfl) ?_
 refine wp_skip ?_
 refine E.norm ?_
 refine wp_seq ?_
 refine E.drawn 9 aF hF [25,26,27,28,29,30,31,32,7] [(fun _ v=>v= .pointer (some ⟨g5,0,none⟩)),(fun _ v=>v= .bool (decide (Rat.num (q1)<0))),(fun _ v=>v= .pointer (some ⟨g5,1,none⟩)),(fun _ v=>v= .slice ad8 n8 c8),(fun w v=>Dg w .i64 65536 v (Int.natAbs (Rat.num (q1)))),(fun w v=>Rz w v (sg ((decide (Rat.num (q1)<0))) (Int.natAbs (Rat.num (q1))))),(fun _ v=>v= .slice ad9 n9 c9),(fun w v=>Dg w .i64 65536 v (Rat.den (q1))),(fun w v=>∃g,v= .pointer (some ⟨g,0,none⟩)∧w21.heap.size≤g∧Own w g [.bool false,.slice none 0 0])] [8] (by decide+kernel) (by decide+kernel) rfl rfl rfl ⟨(Mb.eq _),(Mb.eq _),(Mb.eq _),(Mb.eq _),(fun _ _ _ h hb=>h.below hb),(fun _ _ _ h hb=>h.below hb),(Mb.eq _),(fun _ _ _ h hb=>h.below hb),(fun _ _ _ ⟨g,e,l,o⟩ hb=>⟨g,e,l,o.below hb⟩),trivial⟩ ⟨fun _ _ ⟨g,e,_,o⟩=>⟨g,e,o.lt⟩,trivial⟩ ⟨?_,?_,?_,?_,?_,?_,?_,?_,?_,trivial⟩ ?_
 ·intro a' w' hF' hb hd
  exact dv0 (aA (hF'.at 13 rfl) (gK (p:=0) rfl)) rfl rfl rfl
 ·intro a' w' hF' hb hd
  have e25:=tE hd 0 rfl
  exact dv0 (av e25 (dP (v:= .bool (decide (Rat.num (q1)<0))) ((st.b 0 rfl rfl).below hb) rfl)) rfl rfl rfl
 ·intro a' w' hF' hb hd
  exact dv0 (aA (hF'.at 13 rfl) (cU (p:=1) rfl)) rfl rfl rfl
 ·intro a' w' hF' hb hd
  have e27:=tE hd 0 rfl
  exact dv0 (av e27 (cK (v:= .slice ad8 n8 c8) ((st.b 0 rfl rfl).below hb) rfl)) rfl rfl rfl
 ·intro a' w' hF' hb hd
  have e28:=tE hd 0 rfl
  exact dc0 (rk Fe (aI e28)) (tT _ (Int.natAbs (Rat.num (q1))) _ ((st.f 2 rfl).below hb) (Lim.dl (l1.1) _ (by omega))) rfl rfl
 ·intro a' w' hF' hb hd
  have e26:=tE hd 0 rfl
  obtain⟨v29_0,e29,h29_1⟩:=tH hd 1 rfl
  exact dc0 (rk wM (aC e26 e29)) (dD _ _ (Int.natAbs (Rat.num (q1))) _ h29_1) rfl rfl
 ·exact qM 12 rfl rfl rfl
 ·intro a' w' hF' hb hd
  have e31:=tE hd 0 rfl
  exact dc0 (rk Fe (aI e31)) (tT _ (Rat.den (q1)) _ ((st.f 3 rfl).below hb) (Lim.dl (l1.2) _ (by omega))) rfl rfl
 ·intro a' w' hF' hb hd
  exact da0 db rfl hb.size rfl
 intro a w22 hF bb hall hne
 have s0:=st
 replace st:=st.to bb
 obtain⟨vv23,hF,st⟩:=aS hall hF st 5 rfl rfl Rz.cl
 obtain⟨vv25,hF,st⟩:=aS hall hF st 7 rfl rfl Dg.cl
 obtain⟨_,e7,g7,rfl,ge7,o7⟩:=sS hall 8 7 rfl rfl
 replace st:=st.push o7.blk (Nat.le_trans s0.bel.size ge7) (s0.ne ge7)
 clear o7
 clear hall hne bb s0
 obtain⟨b27,ad27,n27,c27,rfl⟩:=Rz.form (st.f 1 rfl)
 obtain⟨ad28,n28,c28,rfl⟩:=Dg.form (st.f 0 rfl)
 replace hF:=hF.add e7
 clear e7
 refine so st hF 0 0 2 db rfl rfl rfl rfl fun w29 a st hF=>?_
 have hf30:=Rz.abs (st.f 1 rfl)
 replace st:=st.add hf30 (Dg.cl _)
 clear hf30
 refine oA hF 1 rfl rfl fun a hF=>?_
 refine ns ?_
 refine wp_seq ?_
 refine E.drawn 12 aF hF [33,34,35,36,37,38,39,40,41,42,43,44] [(fun _ v=>v= .agg #[.bool b27,.slice ad27 n27 c27]),(fun _ v=>v= .pointer (some ⟨g3,2,none⟩)),(fun _ v=>v= .slice ae2 m2 d2),(fun _ v=>v= .agg #[.bool false,.slice ae2 m2 d2]),(fun w v=>Rz w v ((sg ((decide (Rat.num (q1)<0))) (Int.natAbs (Rat.num (q1))))*(((D2:Nat):Int)))),(fun _ v=>v= .pointer (some ⟨g3,0,none⟩)),(fun _ v=>v= .agg #[.bool b2,.slice ad2 n2 c2]),(fun _ v=>v= .slice ad28 n28 c28),(fun _ v=>v= .agg #[.bool false,.slice ad28 n28 c28]),(fun w v=>Rz w v (z2*(((Rat.den (q1):Nat):Int)))),(fun _ v=>v= .int .i64 (ci ((sg ((decide (Rat.num (q1)<0))) (Int.natAbs (Rat.num (q1))))*(((D2:Nat):Int))) (z2*(((Rat.den (q1):Nat):Int))))),(fun _ v=>v= .bool false)] [] (by decide+kernel) (by decide+kernel) rfl rfl rfl ⟨(Mb.eq _),(Mb.eq _),(Mb.eq _),(Mb.eq _),(fun _ _ _ h hb=>h.below hb),(Mb.eq _),(Mb.eq _),(Mb.eq _),(Mb.eq _),(fun _ _ _ h hb=>h.below hb),(Mb.eq _),(Mb.eq _),trivial⟩ trivial ⟨?_,?_,?_,?_,?_,?_,?_,?_,?_,?_,?_,?_,trivial⟩ ?_
 ·exact qL st 1 0 db rfl rfl rfl rfl rfl
 ·intro a' w' hF' hb hd
  exact dv0 (aA (hF'.at 21 rfl) (dS (p:=2) rfl)) rfl rfl rfl
 ·intro a' w' hF' hb hd
  have e34:=tE hd 0 rfl
  exact dv0 (av e34 (cp (v:= .slice ae2 m2 d2) ((st.b 2 rfl rfl).below hb) rfl)) rfl rfl rfl
 ·intro a' w' hF' hb hd
  have e35:=tE hd 0 rfl
  exact dv0 (bh (fk e35) (eg _ _ _ _)) rfl rfl rfl
 ·intro a' w' hF' hb hd
  have e33:=tE hd 0 rfl
  have e36:=tE hd 1 rfl
  exact dc0 (rk ib (aC e33 e36)) (dB _ _ _ _ k1 k2 _ ((st.f 2 rfl).below hb) (Rz.nat (hd2.below (ar st.bel hb))) (eU _ (l1.1)) (bX lD2) (by omega) (by omega)) rfl rfl
 ·intro a' w' hF' hb hd
  exact dv0 (aA (hF'.at 21 rfl) (dF (p:=0) rfl)) rfl rfl rfl
 ·intro a' w' hF' hb hd
  have e38:=tE hd 0 rfl
  exact dv0 (av e38 (bJ (vs:=[.bool b2,.slice ad2 n2 c2]) ((st.b 2 rfl rfl).below hb) rfl rfl)) rfl rfl rfl
 ·exact qM 0 rfl rfl rfl
 ·intro a' w' hF' hb hd
  have e40:=tE hd 0 rfl
  exact dv0 (bh (fk e40) (eg _ _ _ _)) rfl rfl rfl
 ·intro a' w' hF' hb hd
  have e39:=tE hd 0 rfl
  have e41:=tE hd 1 rfl
  exact dc0 (rk ib (aC e39 e41)) (dB _ _ _ _ k2 k1 _ (hn2.below (ar st.bel hb)) (Rz.nat ((st.f 1 rfl).below hb)) lz2 (bX (l1.2)) (by omega) (by omega)) rfl rfl
 ·intro a' w' hF' hb hd
  obtain⟨v37_0,e37,h37_1⟩:=tH hd 0 rfl
  obtain⟨v42_0,e42,h42_1⟩:=tH hd 1 rfl
  exact iv (rk GH (aC e37 e42)) (qN _ _ _ _ (k1+k2) (k2+k1) _ h37_1 h42_1 (cG (eU _ (l1.1)) (bX lD2)) (cG lz2 (bX (l1.2))) (by omega) (by omega)) (fun _=>rfl) rfl rfl
 ·intro a' w' hF' hb hd
  have e43:=tE hd 0 rfl
  exact dv0 (aq e43 ao ab (aw (en (c:=false) (ne0 (qA (by rw[k5];exact HX.out)))) (by simp))) rfl rfl rfl
 intro a w31 hF bb hall hne
 replace st:=st.to bb
 replace hF:=aE hall hF 11 rfl rfl
 clear hall hne bb
 refine E.nil ?_
 refine wp_cond_false (hF.at 0 rfl) ?_
 refine wp_skip ?_
 refine E.norm ?_
 refine wq ?_
 refine oS hF (aO ao) rfl fun a hF=>?_
 refine nr ?_
 have bel:=st.bel
 refine rt Tryz.results19 hF 0 rfl ?_
 exact⟨rfl,bel⟩
end
section
theorem xq (v1 v2:Value) (q1 q2:Rat) (w:World) (h1:Rq w v1 q1) (h2:Rq w v2 q2) (h:q1=q2):Calls Tryz.prog 52 #[v1,v2] w (s6 w true):=by
 have:=zu v1 v2 q1 q2 w h1 h2
 rw[decide_eq_true h] at this
 exact this
end
section
theorem zp (a b:Rat):qc a b=if a<b then -1 else if b<a then 1 else 0:=by
 unfold qc ci
 simp only [←Rat.lt_iff]
theorem kG (z:Int): -1≤sz z∧sz z≤1:=by unfold sz;split <;> (try split) <;> omega
theorem xV (q:Rat):sz q.num=if q<0 then -1 else if 0<q then 1 else 0:=by
 have h1:q<0↔q.num<0:=by rw[Rat.lt_iff];simp
 have h2:0<q↔0<q.num:=by rw[Rat.lt_iff];simp
 simp only [h1,h2]
 unfold sz
 split
 ·rename_i e;rw[e];simp
 ·split
  ·rfl
  ·rw[if_pos (by omega)]
theorem kA {a b:Int} (ha: -1≤a∧a≤1) (hb: -1≤b∧b≤1): -9223372036854775808≤a*b∧a*b≤9223372036854775807:=by
 obtain⟨a1,a2⟩:=ha
 obtain⟨b1,b2⟩:=hb
 have h:a= -1∨a=0∨a=1:=by omega
 rcases h with rfl|rfl|rfl <;> constructor <;> omega
end
end
theorem yi {x:Int} {a:Nat} (y:Int) (h:Lim x.natAbs a):Lim (x.fdiv y).natAbs (a+1):=by
 refine Nat.lt_of_le_of_lt (m:=x.natAbs+1) ?_ ?_
 ·rw[Int.fdiv_eq_ediv]
  have h1:(x/y).natAbs ≤x.natAbs:=Int.natAbs_ediv_le_natAbs x y
  split <;> omega
 ·have h1:B32^a+1≤B32^(a+1):=by
   rw[Nat.pow_succ]
   have h2:0<B32^a:=Nat.pow_pos (by decide)
   have h3:B32^a*2≤B32^a*B32:=Nat.mul_le_mul_left _ (by decide)
   omega
  unfold Lim at h
  omega
theorem tq (z y:Int) (h:y≠0):∃r,z=sg (decide (z<0) !=decide (y<0)) (z.natAbs/y.natAbs)*y+r∧r.natAbs<y.natAbs∧(0≤z→0≤r)∧(z≤0→r≤0):=by
 have h1:=Nat.div_add_mod z.natAbs y.natAbs
 have h2:=Nat.mod_lt z.natAbs (show 0<y.natAbs by omega)
 generalize z.natAbs/y.natAbs=q at*
 generalize z.natAbs%y.natAbs=r at*
 have h3:((y.natAbs*q:Nat):Int)=(y.natAbs:Int)*(q:Int):=by simp
 by_cases hz:z<0 <;> by_cases hy:y<0
 ·refine⟨-(r:Int),?_,by omega,by omega,by omega⟩
  rw[decide_eq_true hz,decide_eq_true hy]
  have e:(y.natAbs:Int)= -y:=by omega
  rw[e,Int.neg_mul] at h3
  show z=(q:Int)*y+_
  rw[Int.mul_comm];omega
 ·refine⟨-(r:Int),?_,by omega,by omega,by omega⟩
  rw[decide_eq_true hz,decide_eq_false hy]
  have e:(y.natAbs:Int)=y:=by omega
  rw[e] at h3
  show z= -(q:Int)*y+_
  rw[Int.neg_mul,Int.mul_comm];omega
 ·refine⟨(r:Int),?_,by omega,by omega,by omega⟩
  rw[decide_eq_false hz,decide_eq_true hy]
  have e:(y.natAbs:Int)= -y:=by omega
  rw[e,Int.neg_mul] at h3
  show z= -(q:Int)*y+_
  rw[Int.neg_mul,Int.mul_comm];omega
 ·refine⟨(r:Int),?_,by omega,by omega,by omega⟩
  rw[decide_eq_false hz,decide_eq_false hy]
  have e:(y.natAbs:Int)=y:=by omega
  rw[e] at h3
  show z=(q:Int)*y+_
  rw[Int.mul_comm];omega
theorem GK {z y q r:Int} (h:y≠0) (e:z=q*y+r) (h1:0<y→0≤r∧r<y) (h2:y<0→r≤0∧y<r):q=Int.fdiv z y∧r=fr z y:=by
 unfold fr
 rw[if_neg h]
 rcases Int.lt_or_gt_of_ne h with h'|h'
 ·obtain⟨a,b⟩:=rL (a:=z) (b:=y) (q:=q) (r:=r) (by rw[e,Int.mul_comm]) (h2 h').1 (h2 h').2
  exact⟨a.symm,b.symm⟩
 ·obtain⟨a,b⟩:=pN (a:=z) (b:=y) (q:=q) (r:=r) (by rw[e,Int.mul_comm]) (h1 h').1 (h1 h').2
  exact⟨a.symm,b.symm⟩
theorem CH {a b:Int}:sz a*sz b<0↔(a<0∧0<b)∨(0<a∧b<0):=by
 unfold sz
 split <;> split <;> (try split) <;> (try split) <;> omega
theorem DT {z y q:Int} (hq:q=sg (decide (z<0) !=decide (y<0)) (z.natAbs/y.natAbs)) (h:y≠0) (ht:sz (z+ -(q*y))*sz y<0):q+ -1=Int.fdiv z y∧z+ -((q+ -1)*y)=fr z y:=by
 obtain⟨r,e,h1,h2,h3⟩:=tq z y h
 rw[←hq] at e
 have er:z+ -(q*y)=r:=by omega
 rw[er,CH] at ht
 have e2:(q+ -1)*y=q*y-y:=by rw[Int.add_mul];omega
 have:=GK (z:=z) (y:=y) (q:=q+ -1) (r:=r+y) h (by rw[e2];omega) (by omega) (by omega)
 exact⟨this.1,by rw[e2,←this.2];omega⟩
theorem DY {z y q:Int} (hq:q=sg (decide (z<0) !=decide (y<0)) (z.natAbs/y.natAbs)) (h:y≠0) (ht:¬sz (z+ -(q*y))*sz y<0):q=Int.fdiv z y∧z+ -(q*y)=fr z y:=by
 obtain⟨r,e,h1,h2,h3⟩:=tq z y h
 rw[←hq] at e
 have er:z+ -(q*y)=r:=by omega
 rw[er,CH] at ht
 rw[er]
 exact GK h e (by omega) (by omega)
theorem Rz.cast {w:World} {v:Value} {z z':Int} (h:Rz w v z) (e:z=z'):Rz w v z':=by subst e;exact h
def EH (w:World) (z1 z2:Int) (e:Ending) (w':World):Prop:=∃v1 v2,e= .returned (.tuple #[v1,v2])∧Rz w' v1 (z1.fdiv z2)∧Rz w' v2 (fr z1 z2)∧Below w.heap.size w w'
end Go.Proofs.YtnljadejcfgmaaaGreatDoor
