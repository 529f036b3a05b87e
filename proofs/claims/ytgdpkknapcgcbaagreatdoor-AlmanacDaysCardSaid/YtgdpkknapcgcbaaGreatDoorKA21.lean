import Derived.Test.YtgdpkknapcgcbaaGreatDoorKA19
namespace Go.Proofs.YtgdpkknapcgcbaaGreatDoor
open Go.RowKit
set_option maxRecDepth 100000
set_option linter.unusedVariables false
set_option maxHeartbeats 8000000
section
section
theorem Dd {q:Rat} {z:Int} {D:Nat} (h:q=mkRat z D) (hD:0<D):q.num*(D:Int)=z*(q.den:Int):=by
 have h2:mkRat q.num q.den=mkRat z D:=by rw[Rat.mkRat_self];exact h
 exact(Rat.mkRat_eq_iff q.den_nz (by omega)).1 h2
theorem z7 (nega1:Bool) (aa1:Option Addr) (na1 ca1:Nat) (xa1:List Nat) (negb1:Bool) (ab1:Option Addr) (nb1 cb1:Nat) (xb1:List Nat) (m:Nat) (w:World) (ia1:InX w aa1 na1 ca1 xa1) (ib1:InX w ab1 nb1 cb1 xb1) (hm:m<=1000) (hm1:1<=m):
 CP 124 #[.agg #[.bool nega1,.slice aa1 na1 ca1,.bool negb1,.slice ab1 nb1 cb1],iv (m:Nat)] w (bh w ((iz nega1 xa1 m:Rat)/(iz negb1 xb1 m:Rat)) m):=by
 have oka1:=ia1.ok
 have okb1:=ib1.ok
 refine gs2 (nt:=14) Tryz.func124 rfl rfl rfl fun a st hF=>wq<|bx st hF 0 rfl rfl fun g2 w1 a st hF=>S.alloc st hF ab rfl rfl fun g4 w2 a st hF=>ns ?_
 refine E.drawn 9 az hF [5,6,7,8,9,10,11,12,13] [(fun _ v=>v= .pointer (some ⟨g2,0,none⟩)),(fun _ v=>v= .agg #[.bool nega1,.slice aa1 na1 ca1]),(fun _ v=>v= iv ((m:Nat):Int)),(fun w v=>Rz w v (iz nega1 xa1 m)),(fun _ v=>v= .pointer (some ⟨g2,2,none⟩)),(fun _ v=>v= .agg #[.bool negb1,.slice ab1 nb1 cb1]),(fun _ v=>v= iv ((m:Nat):Int)),(fun w v=>Rz w v (iz negb1 xb1 m)),(fun w v=>Rr w v (((iz nega1 xa1 m:Int):Rat)/((iz negb1 xb1 m:Int):Rat)) (m))] [] (by decide+kernel) (by decide+kernel) rfl rfl rfl ⟨(Mb.eq _),(Mb.eq _),(Mb.eq _),(fun _ _ _ h hb=>h.below hb),(Mb.eq _),(Mb.eq _),(Mb.eq _),(fun _ _ _ h hb=>h.below hb),(fun _ _ _ h hb=>h.below hb),trivial⟩ trivial ⟨?_,?_,?_,?_,?_,?_,?_,?_,?_,trivial⟩ ?_
 ·intro a' w' hF' hb hd
  exact dv0 (av (hF'.at 1 rfl) (Bg (p:=0) rfl)) rfl rfl rfl
 ·intro a' w' hF' hb hd
  have e5:=tE hd 0 rfl
  exact dv0 (ar e5 (BZ (vs:=[.bool nega1,.slice aa1 na1 ca1]) ((st.b 1 rfl rfl).below hb) rfl rfl)) rfl rfl rfl
 ·exact qM 3 rfl rfl rfl
 ·intro a' w' hF' hb hd
  have e6:=tE hd 0 rfl
  have e7:=tE hd 1 rfl
  exact dc0 (rk EX (aB e6 e7)) (vA nega1 aa1 na1 ca1 m xa1 _ (ia1.below (aA st.bel hb)) (by omega)) rfl rfl
 ·intro a' w' hF' hb hd
  exact dv0 (av (hF'.at 1 rfl) (zQ (p:=2) rfl)) rfl rfl rfl
 ·intro a' w' hF' hb hd
  have e9:=tE hd 0 rfl
  exact dv0 (ar e9 (BZ (vs:=[.bool negb1,.slice ab1 nb1 cb1]) ((st.b 1 rfl rfl).below hb) rfl rfl)) rfl rfl rfl
 ·exact qM 3 rfl rfl rfl
 ·intro a' w' hF' hb hd
  have e10:=tE hd 0 rfl
  have e11:=tE hd 1 rfl
  exact dc0 (rk EX (aB e10 e11)) (vA negb1 ab1 nb1 cb1 m xb1 _ (ib1.below (aA st.bel hb)) (by omega)) rfl rfl
 ·intro a' w' hF' hb hd
  obtain⟨v8_0,e8,h8_1⟩:=tH hd 0 rfl
  obtain⟨v12_0,e12,h12_1⟩:=tH hd 1 rfl
  exact dc0 (rk Fq (aB e8 e12)) (lI _ _ (iz nega1 xa1 m) (iz negb1 xb1 m) m _ h8_1 h12_1 (Lim.up (sJ nega1 oka1 m) _ (by omega)) (Lim.up (sJ negb1 okb1 m) _ (by omega)) (by omega)) rfl rfl
 intro a w3 hF bb hall hne
 replace st:=st.to bb
 obtain⟨vv4,hF,st⟩:=aS hall hF st 8 rfl rfl Rr.cl
 clear hall hne bb
 obtain⟨r6,rfl⟩:=Rr.fo (st.f 0 rfl)
 refine so st hF 0 1 0 ab rfl rfl rfl rfl fun w7 a st hF=>nr<|rs Tryz.results124 st hF 1 0 ab rfl rfl rfl ?_
 exact⟨_,rfl,(st.f 0 rfl),st.bel⟩
theorem sl (v1 v2:Value) (q1 q2:Rat) (k1 k2:Nat) (w:World) (h1:Rq w v1 q1) (h2:Rr w v2 q2 k2) (l1:ah q1 k1) (e:q1=q2) (hk1:k1<=20000) (hk2:k2<=20000):
 CP 21 #[v1,v2] w (Cz w):=by
 obtain⟨b1,ad1,n1,c1,ae1,m1,d1,rfl,hn1,hd1⟩:=h1.shape
 have ha1:=hn1.abs
 have hb1:=hn1.neg
 replace h2:Rr w v2 q1 k2:=h2.cast e.symm
 clear e q2
 obtain⟨b2,ad2,n2,c2,ae2,m2,d2,z2,D2,rfl,hn2,hd2,hD2,hq2,lz2,lD2⟩:=h2.shape
 have ha2:=hn2.abs
 have hb2:=hn2.neg
 replace hq2:=Lib.hid hq2
 have HX:=Lib.hid (Dd hq2.out hD2)
 have hdl:=dL (by decide:2<=2) (Rat.den_pos q1)
 refine gs2 (nt:=45) Tryz.func21 rfl rfl rfl fun a st hF=>wq<|bx st hF 0 rfl rfl fun g2 w1 a st hF=>bx st hF 2 rfl rfl fun g3 w2 a st hF=>?_
 refine oC hF rfl fun a hF=>ns ?_
 refine E.drawn 5 az hF [9,10,11,12,5] [(fun _ v=>v= .agg #[.bool b1,.slice ad1 n1 c1,.slice ae1 m1 d1]),(fun w v=>Wc w v (Rat.num (q1))),(fun _ v=>v= .agg #[.bool b1,.slice ad1 n1 c1,.slice ae1 m1 d1]),(fun w v=>Dg w .u32 B32 v (Rat.den (q1))),(fun w v=>∃g,v= .pointer (some ⟨g,0,none⟩)/\w2.heap.size<=g/\Own w g [.bool false,.slice none 0 0])] [4] (by decide+kernel) (by decide+kernel) rfl rfl rfl ⟨(Mb.eq _),(fun _ _ _ h hb=>h.below hb),(Mb.eq _),(fun _ _ _ h hb=>h.below hb),(fun _ _ _ ⟨g,e,l,o⟩ hb=>⟨g,e,l,o.below hb⟩),trivial⟩ ⟨fun _ _ ⟨g,e,_,o⟩=>⟨g,e,o.lt⟩,trivial⟩ ⟨?_,?_,?_,?_,?_,trivial⟩ ?_
 ·exact qL st 2 1 aa rfl rfl rfl rfl rfl
 ·intro a' w' hF' hb hd
  have e9:=tE hd 0 rfl
  exact dc0 (rk JP (aD e9)) (uI _ (q1) _ (h1.below (aA st.bel hb))) rfl rfl
 ·exact qL st 2 1 aa rfl rfl rfl rfl rfl
 ·intro a' w' hF' hb hd
  have e11:=tE hd 0 rfl
  exact dc0 (rk L5 (aD e11)) (mp _ (q1) _ (h1.below (aA st.bel hb))) rfl rfl
 ·intro a' w' hF' hb hd
  exact da0 aV rfl hb.size rfl
 intro a w3 hF bb hall hne
 have s0:=st
 replace st:=st.to bb
 obtain⟨vv4,hF,st⟩:=aS hall hF st 1 rfl rfl Wc.cl
 obtain⟨vv6,hF,st⟩:=aS hall hF st 3 rfl rfl Dg.cl
 obtain⟨_,e5,g5,rfl,ge5,o5⟩:=sS hall 4 5 rfl rfl
 replace st:=st.push o5.blk (Nat.le_trans s0.bel.size ge5) (s0.ne ge5)
 clear o5
 clear hall hne bb s0
 obtain⟨ad8,n8,c8,rfl,_⟩:=Wc.shape (st.f 1 rfl)
 obtain⟨ad9,n9,c9,rfl⟩:=Dg.form (st.f 0 rfl)
 replace hF:=hF.add e5
 clear e5
 refine so st hF 0 0 2 aV rfl rfl rfl rfl fun w10 a st hF=>?_
 have hf11:=Wc.abs (st.f 1 rfl)
 replace st:=st.add hf11 (Dg.cl _)
 clear hf11
 refine oA hF 1 rfl rfl fun a hF=>ns<|wq<|oM hF 0 rfl rfl fun a hF=>cX st hF (rk MK (aD hF.o)) (yQ (iJ _ (Rat.den (q1)) _ (Dg.nt (st.f 1 rfl)))) rfl fun w12 a st hF=>oT hF 0 (aX (c:=false) (mg (by omega))) rfl rfl fun a hF=>oM hF 0 rfl rfl fun a hF=>og hF (av (hF.at 5 rfl) (bP (p:=1) rfl)) 0 rfl rfl rfl fun a hF=>og hF (ar hF.o (cn (v:= .slice ad8 n8 c8) (st.b 0 rfl rfl) rfl)) 1 rfl rfl rfl fun a hF=>og hF (aO (hF.at 6 rfl)) 2 rfl rfl rfl fun a hF=>?_
 refine S.callg st hF (aw rfl rfl (hF.at 3 rfl) rfl) (rk Mr (aB hF.p hF.o)) (jQ _ _ (Int.natAbs (Rat.num (q1))) (Rat.den (q1)) _ (Dg.nt (st.f 0 rfl)) (Dg.nt (st.f 1 rfl))) (fun _ _ h=>h) Dg.cl rfl rfl rfl fun vv14 w13 a st hF=>?_
 obtain⟨ad16,n16,c16,rfl⟩:=Dg.form (st.f 0 rfl)
 refine S.callg st hF (aw rfl rfl (hF.at 4 rfl) rfl) (rk Mq (aD ao)) (lA 1 _ (by decide)) (fun _ _ h=>h) Dg.cl rfl rfl rfl fun vv18 w17 a st hF=>?_
 obtain⟨ad20,n20,c20,rfl⟩:=Dg.form (st.f 0 rfl)
 refine S.callxg st hF (aw rfl rfl (hF.at 5 rfl) rfl) (rk Mm (aB hF.p hF.o)) (oK (nR _ _ (Nat.gcd (Int.natAbs (Rat.num (q1))) (Rat.den (q1))) 1 _ (Dg.nt (st.f 1 rfl)) (Dg.nt (st.f 0 rfl)))) rfl rfl rfl fun w21 a st hF=>?_
 refine og hF (au hF.o ao ag (aW (dA (c:=false) (ne0 (IB q1.reduced))) (by simp))) 6 rfl rfl rfl fun a hF=>oV hF (bB (hF.at 7 rfl) hF.o) rfl fun a hF=>E.nil<|wp_cond_false hF.o<|wp_skip<|E.norm<|wp_seq ?_
 refine E.drawn 9 az hF [25,26,27,28,29,30,31,32,7] [(fun _ v=>v= .pointer (some ⟨g5,0,none⟩)),(fun _ v=>v= .bool (decide (Rat.num (q1)<0))),(fun _ v=>v= .pointer (some ⟨g5,1,none⟩)),(fun _ v=>v= .slice ad8 n8 c8),(fun w v=>Dg w .i64 65536 v (Int.natAbs (Rat.num (q1)))),(fun w v=>Rz w v (sg ((decide (Rat.num (q1)<0))) (Int.natAbs (Rat.num (q1))))),(fun _ v=>v= .slice ad9 n9 c9),(fun w v=>Dg w .i64 65536 v (Rat.den (q1))),(fun w v=>∃g,v= .pointer (some ⟨g,0,none⟩)/\w21.heap.size<=g/\Own w g [.bool false,.slice none 0 0])] [8] (by decide+kernel) (by decide+kernel) rfl rfl rfl ⟨(Mb.eq _),(Mb.eq _),(Mb.eq _),(Mb.eq _),(fun _ _ _ h hb=>h.below hb),(fun _ _ _ h hb=>h.below hb),(Mb.eq _),(fun _ _ _ h hb=>h.below hb),(fun _ _ _ ⟨g,e,l,o⟩ hb=>⟨g,e,l,o.below hb⟩),trivial⟩ ⟨fun _ _ ⟨g,e,_,o⟩=>⟨g,e,o.lt⟩,trivial⟩ ⟨?_,?_,?_,?_,?_,?_,?_,?_,?_,trivial⟩ ?_
 ·intro a' w' hF' hb hd
  exact dv0 (av (hF'.at 13 rfl) (bX (p:=0) rfl)) rfl rfl rfl
 ·intro a' w' hF' hb hd
  have e25:=tE hd 0 rfl
  exact dv0 (ar e25 (bm (v:= .bool (decide (Rat.num (q1)<0))) ((st.b 0 rfl rfl).below hb) rfl)) rfl rfl rfl
 ·intro a' w' hF' hb hd
  exact dv0 (av (hF'.at 13 rfl) (bP (p:=1) rfl)) rfl rfl rfl
 ·intro a' w' hF' hb hd
  have e27:=tE hd 0 rfl
  exact dv0 (ar e27 (cn (v:= .slice ad8 n8 c8) ((st.b 0 rfl rfl).below hb) rfl)) rfl rfl rfl
 ·intro a' w' hF' hb hd
  have e28:=tE hd 0 rfl
  exact dc0 (rk Ig (aD e28)) (vr _ (Int.natAbs (Rat.num (q1))) _ ((st.f 2 rfl).below hb) (Lim.dl (l1.1) _ (by omega))) rfl rfl
 ·intro a' w' hF' hb hd
  have e26:=tE hd 0 rfl
  obtain⟨v29_0,e29,h29_1⟩:=tH hd 1 rfl
  exact dc0 (rk IA (aB e26 e29)) (dP _ _ (Int.natAbs (Rat.num (q1))) _ h29_1) rfl rfl
 ·exact qM 12 rfl rfl rfl
 ·intro a' w' hF' hb hd
  have e31:=tE hd 0 rfl
  exact dc0 (rk Ig (aD e31)) (vr _ (Rat.den (q1)) _ ((st.f 3 rfl).below hb) (Lim.dl (l1.2) _ (by omega))) rfl rfl
 ·intro a' w' hF' hb hd
  exact da0 aI rfl hb.size rfl
 intro a w22 hF bb hall hne
 have s0:=st
 replace st:=st.to bb
 obtain⟨vv23,hF,st⟩:=aS hall hF st 5 rfl rfl Rz.cl
 obtain⟨vv25,hF,st⟩:=aS hall hF st 7 rfl rfl Dg.cl
 obtain⟨_,e7,g7,rfl,ge7,o7⟩:=sS hall 8 7 rfl rfl
 replace st:=st.push o7.blk (Nat.le_trans s0.bel.size ge7) (s0.ne ge7)
 clear o7
 clear hall hne bb s0
 obtain⟨b27,ad27,n27,c27,rfl⟩:=Rz.form (st.f 1 rfl)
 obtain⟨ad28,n28,c28,rfl⟩:=Dg.form (st.f 0 rfl)
 replace hF:=hF.add e7
 clear e7
 refine so st hF 0 0 2 aI rfl rfl rfl rfl fun w29 a st hF=>?_
 have hf30:=Rz.abs (st.f 1 rfl)
 replace st:=st.add hf30 (Dg.cl _)
 clear hf30
 refine oA hF 1 rfl rfl fun a hF=>ns<|wp_seq ?_
 refine E.drawn 12 az hF [33,34,35,36,37,38,39,40,41,42,43,44] [(fun _ v=>v= .agg #[.bool b27,.slice ad27 n27 c27]),(fun _ v=>v= .pointer (some ⟨g3,2,none⟩)),(fun _ v=>v= .slice ae2 m2 d2),(fun _ v=>v= .agg #[.bool false,.slice ae2 m2 d2]),(fun w v=>Rz w v ((sg ((decide (Rat.num (q1)<0))) (Int.natAbs (Rat.num (q1))))*(((D2:Nat):Int)))),(fun _ v=>v= .pointer (some ⟨g3,0,none⟩)),(fun _ v=>v= .agg #[.bool b2,.slice ad2 n2 c2]),(fun _ v=>v= .slice ad28 n28 c28),(fun _ v=>v= .agg #[.bool false,.slice ad28 n28 c28]),(fun w v=>Rz w v (z2*(((Rat.den (q1):Nat):Int)))),(fun _ v=>v= iv (ci ((sg ((decide (Rat.num (q1)<0))) (Int.natAbs (Rat.num (q1))))*(((D2:Nat):Int))) (z2*(((Rat.den (q1):Nat):Int))))),(fun _ v=>v= .bool false)] [] (by decide+kernel) (by decide+kernel) rfl rfl rfl ⟨(Mb.eq _),(Mb.eq _),(Mb.eq _),(Mb.eq _),(fun _ _ _ h hb=>h.below hb),(Mb.eq _),(Mb.eq _),(Mb.eq _),(Mb.eq _),(fun _ _ _ h hb=>h.below hb),(Mb.eq _),(Mb.eq _),trivial⟩ trivial ⟨?_,?_,?_,?_,?_,?_,?_,?_,?_,?_,?_,?_,trivial⟩ ?_
 ·exact qL st 1 0 aI rfl rfl rfl rfl rfl
 ·intro a' w' hF' hb hd
  exact dv0 (av (hF'.at 21 rfl) (dN (p:=2) rfl)) rfl rfl rfl
 ·intro a' w' hF' hb hd
  have e34:=tE hd 0 rfl
  exact dv0 (ar e34 (bL (v:= .slice ae2 m2 d2) ((st.b 2 rfl rfl).below hb) rfl)) rfl rfl rfl
 ·intro a' w' hF' hb hd
  have e35:=tE hd 0 rfl
  exact dv0 (aM (dv e35) (dZ _ _ _ _)) rfl rfl rfl
 ·intro a' w' hF' hb hd
  have e33:=tE hd 0 rfl
  have e36:=tE hd 1 rfl
  exact dc0 (rk uS (aB e33 e36)) (dw _ _ _ _ k1 k2 _ ((st.f 2 rfl).below hb) (Rz.nat (hd2.below (aA st.bel hb))) (gQ _ (l1.1)) (bR lD2) (by omega) (by omega)) rfl rfl
 ·intro a' w' hF' hb hd
  exact dv0 (av (hF'.at 21 rfl) (dD (p:=0) rfl)) rfl rfl rfl
 ·intro a' w' hF' hb hd
  have e38:=tE hd 0 rfl
  exact dv0 (ar e38 (ev (vs:=[.bool b2,.slice ad2 n2 c2]) ((st.b 2 rfl rfl).below hb) rfl rfl)) rfl rfl rfl
 ·exact qM 0 rfl rfl rfl
 ·intro a' w' hF' hb hd
  have e40:=tE hd 0 rfl
  exact dv0 (aM (dv e40) (dZ _ _ _ _)) rfl rfl rfl
 ·intro a' w' hF' hb hd
  have e39:=tE hd 0 rfl
  have e41:=tE hd 1 rfl
  exact dc0 (rk uS (aB e39 e41)) (dw _ _ _ _ k2 k1 _ (hn2.below (aA st.bel hb)) (Rz.nat ((st.f 1 rfl).below hb)) lz2 (bR (l1.2)) (by omega) (by omega)) rfl rfl
 ·intro a' w' hF' hb hd
  obtain⟨v37_0,e37,h37_1⟩:=tH hd 0 rfl
  obtain⟨v42_0,e42,h42_1⟩:=tH hd 1 rfl
  exact Mg (rk LW (aB e37 e42)) (sy _ _ _ _ (k1+k2) (k2+k1) _ h37_1 h42_1 (ch (gQ _ (l1.1)) (bR lD2)) (ch lz2 (bR (l1.2))) (by omega) (by omega)) (fun _=>rfl) rfl rfl
 ·intro a' w' hF' hb hd
  have e43:=tE hd 0 rfl
  exact dv0 (au e43 ao ag (aW (dA (c:=false) (ne0 (GQ (by rw[jh];exact HX.out)))) (by simp))) rfl rfl rfl
 intro a w31 hF bb hall hne
 replace st:=st.to bb
 replace hF:=aE hall hF 11 rfl rfl
 clear hall hne bb
 refine E.nil<|wp_cond_false hF.o<|wp_skip<|E.norm<|wq ?_
 refine oS hF (bw ao) rfl fun a hF=>nr ?_
 have bel:=st.bel
 refine rt Tryz.results21 hF 0 rfl ?_
 exact⟨rfl,bel⟩
end
section
end
section
theorem uH (a b:Rat):qc a b=if a<b then -1 else if b<a then 1 else 0:=by
 unfold qc ci
 simp only [<-Rat.lt_iff]
theorem kK (z:Int): -1<=sz z/\sz z<=1:=by unfold sz;split <;> (try split) <;> omega
theorem A7 (q:Rat):sz q.num=if q<0 then -1 else if 0<q then 1 else 0:=by
 have h1:q<0↔q.num<0:=by rw[Rat.lt_iff];simp
 have h2:0<q↔0<q.num:=by rw[Rat.lt_iff];simp
 simp only [h1,h2]
 unfold sz
 split
 ·rename_i e;rw[e];simp
 ·split
  ·rfl
  ·rw[if_pos (by omega)]
theorem kE {a b:Int} (ha: -1<=a/\a<=1) (hb: -1<=b/\b<=1): -9223372036854775808<=a*b/\a*b<=9223372036854775807:=by
 obtain⟨a1,a2⟩:=ha
 obtain⟨b1,b2⟩:=hb
 have h:a= -1\/a=0\/a=1:=by omega
 rcases h with rfl|rfl|rfl <;> constructor <;> omega
end
end
theorem Ao {x:Int} {a:Nat} (y:Int) (h:Lim x.natAbs a):Lim (x.fdiv y).natAbs (a+1):=by
 refine Nat.lt_of_le_of_lt (m:=x.natAbs+1) ?_ ?_
 ·rw[Int.fdiv_eq_ediv]
  have h1:(x/y).natAbs <=x.natAbs:=Int.natAbs_ediv_le_natAbs x y
  split <;> omega
 ·have h1:B32^a+1<=B32^(a+1):=by
   rw[Nat.pow_succ]
   have h2:0<B32^a:=Nat.pow_pos (by decide)
   have h3:B32^a*2<=B32^a*B32:=Nat.mul_le_mul_left _ (by decide)
   omega
  unfold Lim at h
  omega
theorem tq (z y:Int) (h:y≠0):∃r,z=sg (decide (z<0) !=decide (y<0)) (z.natAbs/y.natAbs)*y+r/\r.natAbs<y.natAbs/\(0<=z->0<=r)/\(z<=0->r<=0):=by
 have h1:=Nat.div_add_mod z.natAbs y.natAbs
 have h2:=Nat.mod_lt z.natAbs (show 0<y.natAbs by omega)
 generalize z.natAbs/y.natAbs=q at*
 generalize z.natAbs%y.natAbs=r at*
 have h3:((y.natAbs*q:Nat):Int)=(y.natAbs:Int)*(q:Int):=by simp
 by_cases hz:z<0 <;> by_cases hy:y<0
 ·refine⟨-(r:Int),?_,by omega,by omega,by omega⟩
  rw[decide_eq_true hz,decide_eq_true hy]
  have e:(y.natAbs:Int)= -y:=by omega
  rw[e,Int.neg_mul] at h3
  show z=(q:Int)*y+_
  rw[Int.mul_comm];omega
 ·refine⟨-(r:Int),?_,by omega,by omega,by omega⟩
  rw[decide_eq_true hz,decide_eq_false hy]
  have e:(y.natAbs:Int)=y:=by omega
  rw[e] at h3
  show z= -(q:Int)*y+_
  rw[Int.neg_mul,Int.mul_comm];omega
 ·refine⟨(r:Int),?_,by omega,by omega,by omega⟩
  rw[decide_eq_false hz,decide_eq_true hy]
  have e:(y.natAbs:Int)= -y:=by omega
  rw[e,Int.neg_mul] at h3
  show z= -(q:Int)*y+_
  rw[Int.neg_mul,Int.mul_comm];omega
 ·refine⟨(r:Int),?_,by omega,by omega,by omega⟩
  rw[decide_eq_false hz,decide_eq_false hy]
  have e:(y.natAbs:Int)=y:=by omega
  rw[e] at h3
  show z=(q:Int)*y+_
  rw[Int.mul_comm];omega
theorem Iy {z y q r:Int} (h:y≠0) (e:z=q*y+r) (h1:0<y->0<=r/\r<y) (h2:y<0->r<=0/\y<r):q=Int.fdiv z y/\r=fr z y:=by
 unfold fr
 rw[if_neg h]
 rcases Int.lt_or_gt_of_ne h with h'|h'
 ·obtain⟨a,b⟩:=tG (a:=z) (b:=y) (q:=q) (r:=r) (by rw[e,Int.mul_comm]) (h2 h').1 (h2 h').2
  exact⟨a.symm,b.symm⟩
 ·obtain⟨a,b⟩:=qe (a:=z) (b:=y) (q:=q) (r:=r) (by rw[e,Int.mul_comm]) (h1 h').1 (h1 h').2
  exact⟨a.symm,b.symm⟩
theorem Fe {a b:Int}:sz a*sz b<0↔(a<0/\0<b)\/(0<a/\b<0):=by
 unfold sz
 split <;> split <;> (try split) <;> (try split) <;> omega
theorem GK {z y q:Int} (hq:q=sg (decide (z<0) !=decide (y<0)) (z.natAbs/y.natAbs)) (h:y≠0) (ht:sz (z+ -(q*y))*sz y<0):q+ -1=Int.fdiv z y/\z+ -((q+ -1)*y)=fr z y:=by
 obtain⟨r,e,h1,h2,h3⟩:=tq z y h
 rw[<-hq] at e
 have er:z+ -(q*y)=r:=by omega
 rw[er,Fe] at ht
 have e2:(q+ -1)*y=q*y-y:=by rw[Int.add_mul];omega
 have:=Iy (z:=z) (y:=y) (q:=q+ -1) (r:=r+y) h (by rw[e2];omega) (by omega) (by omega)
 exact⟨this.1,by rw[e2,<-this.2];omega⟩
theorem GT {z y q:Int} (hq:q=sg (decide (z<0) !=decide (y<0)) (z.natAbs/y.natAbs)) (h:y≠0) (ht:¬sz (z+ -(q*y))*sz y<0):q=Int.fdiv z y/\z+ -(q*y)=fr z y:=by
 obtain⟨r,e,h1,h2,h3⟩:=tq z y h
 rw[<-hq] at e
 have er:z+ -(q*y)=r:=by omega
 rw[er,Fe] at ht
 rw[er]
 exact Iy h e (by omega) (by omega)
theorem Rz.cast {w:World} {v:Value} {z z':Int} (h:Rz w v z) (e:z=z'):Rz w v z':=by subst e;exact h
def Is (w:World) (z1 z2:Int) (e:Ending) (w':World):Prop:=∃v1 v2,e= .returned (.tuple #[v1,v2])/\Rz w' v1 (z1.fdiv z2)/\Rz w' v2 (fr z1 z2)/\Below w.heap.size w w'
theorem vX (v1 v2:Value) (z1 z2:Int) (k j:Nat) (w:World) (h1:Rz w v1 z1) (h2:Rz w v2 z2) (l1:Lim z1.natAbs k) (l2:Lim z2.natAbs j) (hk:k<=5000) (hj:j<=5000):
 CP 197 #[v1,v2] w (Is w z1 z2):=by
 obtain⟨b1,ad1,n1,c1,rfl⟩:=h1.form
 have ha1:=h1.abs
 have hb1:=h1.neg
 obtain⟨b2,ad2,n2,c2,rfl⟩:=h2.form
 have ha2:=h2.abs
 have hb2:=h2.neg
 by_cases e2:z2=0
 ·have HE:=Lib.hid (show(0:Int)=Int.fdiv z1 z2/\0=fr z1 z2 by rw[e2];exact⟨(kt z1).1.symm,(kt z1).2.symm⟩)
  have hm2:n2=0:=Dg.len0 (by rw[e2] at ha2;exact ha2)
  clear hb1 hb2 e2
  refine gs2 (nt:=51) Tryz.func197 rfl rfl rfl fun a st hF=>wq<|bx st hF 0 rfl rfl fun g2 w1 a st hF=>bx st hF 2 rfl rfl fun g3 w2 a st hF=>S.alloc st hF aI rfl rfl fun g4 w3 a st hF=>S.alloc st hF aI rfl rfl fun g5 w4 a st hF=>ns<|wq<|oV hF (av hF.q (bG (p:=1) rfl)) rfl fun a hF=>oV hF (ar hF.o (bL (v:= .slice ad2 n2 c2) (st.b 2 rfl rfl) rfl)) rfl fun a hF=>oV hF (aU (aD hF.o) i9) rfl fun a hF=>oT hF 0 (aX (c:=true) (eq0 (by rw[hm2];rfl))) rfl rfl fun a hF=>?_
  refine E.nil<|wp_cond_true hF.o<|wq<|oV hF (aM (by simp) (lW _)) rfl fun a hF=>oV hF (aM (by simp) (lW _)) rfl fun a hF=>so st hF 1 7 1 aI rfl rfl rfl rfl fun w5 a st hF=>so st hF 0 6 0 aI rfl rfl rfl rfl fun w6 a st hF=>nr<|E.pastr ?_
  have bel:=st.bel
  refine bodyPost_ret (fc Tryz.results197 (hF.at 7 rfl) (a8 aI (st.bk 1 rfl) rfl) (hF.at 6 rfl) (a8 aI (st.bk 0 rfl) rfl)) hF.dfr ?_
  exact⟨_,_,rfl,(Rz.zero _).cast HE.out.1,(Rz.zero _).cast HE.out.2,bel⟩
 ·have hm2:=Dg.lenp (by decide) ha2 (by omega)
  have hQ:sg (b1 !=b2) (Int.natAbs z1/Int.natAbs z2)=sg (decide (z1<0) !=decide (z2<0)) (Int.natAbs z1/Int.natAbs z2):=by rw[hb1,hb2]
  refine gs2 (nt:=51) Tryz.func197 rfl rfl rfl fun a st hF=>wq<|bx st hF 0 rfl rfl fun g2 w1 a st hF=>bx st hF 2 rfl rfl fun g3 w2 a st hF=>S.alloc st hF aI rfl rfl fun g4 w3 a st hF=>S.alloc st hF aI rfl rfl fun g5 w4 a st hF=>ns<|wq<|oV hF (av hF.q (bG (p:=1) rfl)) rfl fun a hF=>oV hF (ar hF.o (bL (v:= .slice ad2 n2 c2) (st.b 2 rfl rfl) rfl)) rfl fun a hF=>oV hF (aU (aD hF.o) i9) rfl fun a hF=>oT hF 0 (aX (c:=false) (mg (by omega))) rfl rfl fun a hF=>?_
  refine E.nil<|wp_cond_false hF.o<|wp_skip<|E.norm<|wq<|oV hF (av (hF.at 7 rfl) (bG (p:=1) rfl)) rfl fun a hF=>oV hF (ar hF.o (bL (v:= .slice ad1 n1 c1) (st.b 3 rfl rfl) rfl)) rfl fun a hF=>oV hF (av (hF.at 8 rfl) (bG (p:=1) rfl)) rfl fun a hF=>oV hF (ar hF.o (bL (v:= .slice ad2 n2 c2) (st.b 2 rfl rfl) rfl)) rfl fun a hF=>?_
  refine S.call2 st hF (rgc Me (aB hF.q hF.o)) (wg _ _ _ _ _ (ha1.below st.bel) (ha2.below st.bel) (Lim.dh l1 _ (by omega)) (Lim.dh l2 _ (by omega))) (fun _ _ h=>h) Dg.cl Dg.cl rfl rfl rfl rfl fun vv6 vv7 w5 a st hF=>?_
  obtain⟨ad10,n10,c10,rfl⟩:=Dg.form (st.f 0 rfl)
  obtain⟨ad11,n11,c11,rfl⟩:=Dg.form (st.f 1 rfl)
  refine oM hF 0 rfl rfl fun a hF=>oV hF (aP (v:= .slice ad10 n10 c10) hF.o rfl) rfl fun a hF=>oV hF (aP (v:= .slice ad11 n11 c11) hF.p rfl) rfl fun a hF=>oA hF 1 rfl rfl fun a hF=>oA hF 1 rfl rfl fun a hF=>nq<|oV hF (av (hF.at 17 rfl) (dF (p:=0) rfl)) rfl fun a hF=>oV hF (ar hF.o (bm (v:= .bool b1) (st.b 3 rfl rfl) rfl)) rfl fun a hF=>oV hF (av (hF.at 18 rfl) (dF (p:=0) rfl)) rfl fun a hF=>oV hF (ar hF.o (bm (v:= .bool b2) (st.b 2 rfl rfl) rfl)) rfl fun a hF=>oV hF (au hF.q hF.o en (gW (d:=(b1 !=b2)) rfl)) rfl fun a hF=>oM hF 6 rfl rfl fun a hF=>S.ck st hF (rgc k67 (aB hF.p hF.o)) (cg (dP _ _ _ _ (st.f 0 rfl)) (gQ _ (Lim.le l1 (Nat.div_le_self _ _)))) Zl.cl rfl fun vv13 w12 a st hF=>?_
  obtain⟨b15,ad15,n15,c15,rfl⟩:=Rz.form (st.f 0 rfl).1
  refine S.new st hF 0 rfl aI rfl rfl rfl rfl rfl fun g8 w16 a st hF=>?_
  have hf17:=Rz.abs (st.f 0 rfl).1
  replace st:=st.add hf17 (Dg.cl _)
  clear hf17
  refine ns<|wp_seq ?_
  by_cases hc18:(sz (z1+(-((sg ((b1 !=b2)) ((Int.natAbs (z1))/(Int.natAbs (z2))))*z2))))*(sz (z2))<0
  ·refine E.rg 11 az hF [30,31,32,33,34,35,36,37,38,39,40] [_,_,_,_,_,_,_,_,_,.ex (iv ((sz (z1+(-((sg ((b1 !=b2)) ((Int.natAbs (z1))/(Int.natAbs (z2))))*z2))))*(sz (z2)))),.ex (.bool true)] (by decide+kernel) rfl rfl rfl ⟨rb st aI 25 4 rfl,rb st aI 0 0 rfl,rb st aI 24 3 rfl,ck st k70 rfl fun _ s=>cg (dw _ _ _ _ k j _ (s.f 1 rfl).1 (h2.below s.bel) (s.f 1 rfl).2 l2 (by omega) (by omega)) (ch (s.f 1 rfl).2 l2),ck st uh rfl fun _ s _ x33=>cg (iV _ _ _ x33.1) (iK x33.2),ck st sm rfl fun _ s _ x34=>cg (gv _ _ _ _ k (k+j) _ (h1.below s.bel) x34.1 l1 x34.2 (by omega) (by omega)) (ff l1 x34.2 ((max k (k+j))+1) (by omega) (by omega)),ck st rR rfl fun _ s _ x35=>aY (hJ _ _ _ x35.1),rb st aI 24 3 rfl,ck st rR rfl fun _ s=>aY (hJ _ _ _ (h2.below s.bel)),(by intro a' w' hF' hb hd;have e36:=tE hd 0 rfl;have e38:=tE hd 1 rfl;exact dv0 (au e36 e38 ag (fw (kE (kK _) (kK _)).1 (kE (kK _) (kK _)).2)) rfl rfl rfl),(by intro a' w' hF' hb hd;have e39:=tE hd 0 rfl;exact dv0 (au e39 ao ag (aW (bQ (c:=true) (aK hc18)) (by simp))) rfl rfl rfl),trivial⟩ ?_
   intro a w19 hF bb hall
   replace st:=st.to bb
   replace hF:=rE hall hF 10 rfl rfl
   clear hall bb
   refine E.nil<|wp_cond_true hF.o ?_
   refine E.rg 3 az hF [41,42,43] [_,_,_] (by decide+kernel) rfl rfl rfl ⟨rb st aI 1 0 rfl,ck st Ec rfl fun _ s=>cg (rQ ((-1)) _ (by decide) (by decide)) (Gk (by decide)),ck st sm rfl fun _ s _ x42=>cg (gv _ _ _ _ k 2 _ (s.f 1 rfl).1 x42.1 (s.f 1 rfl).2 x42.2 (by omega) (by omega)) (ff (s.f 1 rfl).2 x42.2 ((max k 2)+1) (by omega) (by omega)),trivial⟩ ?_
   intro a w20 hF bb hall
   replace st:=st.to bb
   obtain⟨vv21,hF,st⟩:=rS hall hF st 2 rfl rfl Zl.cl
   obtain⟨b23,ad23,n23,c23,rfl⟩:=Rz.form (st.f 0 rfl).1
   clear hall bb
   refine so st hF 0 2 0 aI rfl rfl rfl rfl fun w24 a st hF=>?_
   have hf25:=Rz.abs (st.f 0 rfl).1
   replace st:=st.add hf25 (Dg.cl _)
   clear hf25
   refine ns ?_
   refine E.rg 7 az hF [44,45,46,47,48,49,50] [_,_,_,_,_,_,_] (by decide+kernel) rfl rfl rfl ⟨rb st aI 2 0 rfl,rb st aI 27 4 rfl,rb st aI 2 0 rfl,rb st aI 26 3 rfl,ck st k70 rfl fun _ s=>cg (dw _ _ _ _ ((max k 2)+1) j _ (s.f 1 rfl).1 (h2.below s.bel) (s.f 1 rfl).2 l2 (by omega) (by omega)) (ch (s.f 1 rfl).2 l2),ck st uh rfl fun _ s _ x48=>cg (iV _ _ _ x48.1) (iK x48.2),ck st sm rfl fun _ s _ x49=>cg (gv _ _ _ _ k (((max k 2)+1)+j) _ (h1.below s.bel) x49.1 l1 x49.2 (by omega) (by omega)) (ff l1 x49.2 ((max k (((max k 2)+1)+j))+1) (by omega) (by omega)),trivial⟩ ?_
   intro a w26 hF bb hall
   replace st:=st.to bb
   replace hF:=rE hall hF 0 rfl rfl
   obtain⟨vv27,hF,st⟩:=rS hall hF st 6 rfl rfl Zl.cl
   obtain⟨b29,ad29,n29,c29,rfl⟩:=Rz.form (st.f 0 rfl).1
   clear hall bb
   refine so st hF 2 27 1 aI rfl rfl rfl rfl fun w30 a st hF=>so st hF 1 26 0 aI rfl rfl rfl rfl fun w31 a st hF=>?_
   have hf32:=Rz.abs (st.f 0 rfl).1
   replace st:=st.add hf32 (Dg.cl _)
   clear hf32
   refine nr ?_
   have bel:=st.bel
   refine bodyPost_ret (fc Tryz.results197 (hF.at 27 rfl) (a8 aI (st.bk 2 rfl) rfl) (hF.at 26 rfl) (a8 aI (st.bk 1 rfl) rfl)) hF.dfr ?_
   have hh22:=(st.f 3 rfl).1
   have hh28:=(st.f 1 rfl).1
   have HE:=GK hQ e2 hc18
   exact⟨_,_,rfl,Rz.cast hh22 HE.1,Rz.cast hh28 HE.2,bel⟩
  ·refine E.rg 11 az hF [30,31,32,33,34,35,36,37,38,39,40] [_,_,_,_,_,_,_,_,_,.ex (iv ((sz (z1+(-((sg ((b1 !=b2)) ((Int.natAbs (z1))/(Int.natAbs (z2))))*z2))))*(sz (z2)))),.ex (.bool false)] (by decide+kernel) rfl rfl rfl ⟨rb st aI 25 4 rfl,rb st aI 0 0 rfl,rb st aI 24 3 rfl,ck st k70 rfl fun _ s=>cg (dw _ _ _ _ k j _ (s.f 1 rfl).1 (h2.below s.bel) (s.f 1 rfl).2 l2 (by omega) (by omega)) (ch (s.f 1 rfl).2 l2),ck st uh rfl fun _ s _ x33=>cg (iV _ _ _ x33.1) (iK x33.2),ck st sm rfl fun _ s _ x34=>cg (gv _ _ _ _ k (k+j) _ (h1.below s.bel) x34.1 l1 x34.2 (by omega) (by omega)) (ff l1 x34.2 ((max k (k+j))+1) (by omega) (by omega)),ck st rR rfl fun _ s _ x35=>aY (hJ _ _ _ x35.1),rb st aI 24 3 rfl,ck st rR rfl fun _ s=>aY (hJ _ _ _ (h2.below s.bel)),(by intro a' w' hF' hb hd;have e36:=tE hd 0 rfl;have e38:=tE hd 1 rfl;exact dv0 (au e36 e38 ag (fw (kE (kK _) (kK _)).1 (kE (kK _) (kK _)).2)) rfl rfl rfl),(by intro a' w' hF' hb hd;have e39:=tE hd 0 rfl;exact dv0 (au e39 ao ag (aW (bQ (c:=false) (aJ hc18)) (by simp))) rfl rfl rfl),trivial⟩ ?_
   intro a w33 hF bb hall
   replace st:=st.to bb
   replace hF:=rE hall hF 10 rfl rfl
   clear hall bb
   refine E.nil<|wp_cond_false hF.o<|wp_skip<|E.norm<|wp_seq ?_
   refine E.rg 7 az hF [44,45,46,47,48,49,50] [_,_,_,_,_,_,_] (by decide+kernel) rfl rfl rfl ⟨rb st aI 1 0 rfl,rb st aI 26 4 rfl,rb st aI 1 0 rfl,rb st aI 25 3 rfl,ck st k70 rfl fun _ s=>cg (dw _ _ _ _ k j _ (s.f 1 rfl).1 (h2.below s.bel) (s.f 1 rfl).2 l2 (by omega) (by omega)) (ch (s.f 1 rfl).2 l2),ck st uh rfl fun _ s _ x48=>cg (iV _ _ _ x48.1) (iK x48.2),ck st sm rfl fun _ s _ x49=>cg (gv _ _ _ _ k (k+j) _ (h1.below s.bel) x49.1 l1 x49.2 (by omega) (by omega)) (ff l1 x49.2 ((max k (k+j))+1) (by omega) (by omega)),trivial⟩ ?_
   intro a w34 hF bb hall
   replace st:=st.to bb
   replace hF:=rE hall hF 0 rfl rfl
   obtain⟨vv35,hF,st⟩:=rS hall hF st 6 rfl rfl Zl.cl
   obtain⟨b37,ad37,n37,c37,rfl⟩:=Rz.form (st.f 0 rfl).1
   clear hall bb
   refine so st hF 2 26 1 aI rfl rfl rfl rfl fun w38 a st hF=>so st hF 1 25 0 aI rfl rfl rfl rfl fun w39 a st hF=>?_
   have hf40:=Rz.abs (st.f 0 rfl).1
   replace st:=st.add hf40 (Dg.cl _)
   clear hf40
   refine nr ?_
   have bel:=st.bel
   refine bodyPost_ret (fc Tryz.results197 (hF.at 26 rfl) (a8 aI (st.bk 2 rfl) rfl) (hF.at 25 rfl) (a8 aI (st.bk 1 rfl) rfl)) hF.dfr ?_
   have hh14:=(st.f 3 rfl).1
   have hh36:=(st.f 1 rfl).1
   have HE:=GT hQ e2 hc18
   exact⟨_,_,rfl,Rz.cast hh14 HE.1,Rz.cast hh36 HE.2,bel⟩
end Go.Proofs.YtgdpkknapcgcbaaGreatDoor
