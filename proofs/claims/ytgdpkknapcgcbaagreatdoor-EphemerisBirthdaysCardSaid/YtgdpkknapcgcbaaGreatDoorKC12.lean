import Derived.Test.YtgdpkknapcgcbaaGreatDoorKC11
namespace Go.Proofs.YtgdpkknapcgcbaaGreatDoor
open Go.RowKit
set_option maxRecDepth 100000
set_option linter.unusedVariables false
set_option maxHeartbeats 8000000
theorem tP (v1 v2:Value) (N M:Nat) (w:World) (h1:Nt w v1 N) (h2:Nt w v2 M):
 CP 254 #[v1,v2] w (fun e w'=>∃v,e= .returned (.tuple #[v,.bool (decide (M<=N))])/\Dg w' .u32 B32 v (N-M)/\Below w.heap.size w w'):=by
 refine(Nm v1 v2 N M w h1 h2).mono ?_
 rintro e w' (⟨h,rfl,hb⟩|⟨h,v,rfl,hd,hb⟩)
 ·exact⟨_,by rw[decide_eq_false (by omega)],by rw[show N-M=0 by omega];exact Dg.nil _,hb⟩
 ·exact⟨v,by rw[decide_eq_true h],hd,hb⟩
theorem E0 {n m:Bool} (e:n≠m) (N M:Nat) (h:¬(if M=0 then 0 else N%M)=0):sg (n !=m) (N/M+1)=(sg n N).fdiv (sg m M)/\sg m (M-(if M=0 then 0 else N%M))=fr (sg n N) (sg m M):=by
 obtain rfl:m=!n:=by cases n <;> cases m <;> simp_all
 have:=IV n N M h
 exact⟨by rw[this.1];cases n <;> rfl,this.2.symm⟩
theorem FO {n m:Bool} (e:n≠m) (N M:Nat) (h:(if M=0 then 0 else N%M)=0):sg (n !=m) (N/M)=(sg n N).fdiv (sg m M)/\sg m (if M=0 then 0 else N%M)=fr (sg n N) (sg m M):=by
 obtain rfl:m=!n:=by cases n <;> cases m <;> simp_all
 have:=G6 n N M h
 exact⟨by rw[this.1];cases n <;> rfl,by rw[this.2,h]⟩
theorem EJ {n m:Bool} (e:n=m) (N M:Nat):sg (n !=m) (N/M)=(sg n N).fdiv (sg m M)/\sg m (if M=0 then 0 else N%M)=fr (sg n N) (sg m M):=by
 subst e
 have:=JB n N M
 exact⟨by rw[this.1];cases n <;> rfl,this.2.symm⟩
theorem Br {b c:Bool} (e:¬b=c) {N M:Nat} (h:M<=N):sg b (N-M)=sg b N+sg c M:=by
 cases b <;> cases c <;> simp[sg] at e ⊢ <;> omega
theorem Et {b c:Bool} (e:b=c) (N M:Nat):sg c (N+M)=sg b N+sg c M:=by
 subst e;cases b <;> simp[sg] <;> omega
theorem Eo (v1 v2:Value) (z1 z2:Int) (ka kb:Nat) (w:World) (h1:Wz w v1 z1) (h2:Wz w v2 z2) (l1:Lim z1.natAbs ka) (l2:Lim z2.natAbs kb) (ha:ka<=1000000) (hb:kb<=1000000):
 CP 154 #[v1,v2] w (fK w (z1*z2)):=by
 obtain⟨neg1,ad1,n1,c1,N1,rfl,hN1,rfl⟩:=h1.shape
 have h1:Wz w (.agg #[.bool neg1,.slice ad1 n1 c1]) (sg neg1 N1):=⟨_,_,_,rfl,hN1,rfl⟩
 obtain⟨neg2,ad2,n2,c2,N2,rfl,hN2,rfl⟩:=h2.shape
 have h2:Wz w (.agg #[.bool neg2,.slice ad2 n2 c2]) (sg neg2 N2):=⟨_,_,_,rfl,hN2,rfl⟩
 have ln1:Lim N1 ka:=by rwa[dZ] at l1
 have ln2:Lim N2 kb:=by rwa[dZ] at l2
 refine gs2 (nt:=16) Tryz.func154 rfl rfl rfl fun a st hF=>wq<|bx st hF 0 rfl rfl fun g2 w1 a st hF=>bx st hF 2 rfl rfl fun g3 w2 a st hF=>S.alloc st hF bw rfl rfl fun g4 w3 a st hF=>ns ?_
 refine E.rg 11 aM hF [5,6,7,8,9,10,11,12,13,14,15] [_,_,_,_,.ex (.bool (neg1 !=neg2)),_,_,_,_,_,_] (by decide+kernel) rfl rfl rfl ⟨rfd 2 (fun _=>cL (p:=0) rfl) rfl,rld rfl fun _ hb=>(bR (v:= .bool neg1) ((st.b 2 rfl rfl).below hb) rfl),rfd 1 (fun _=>cL (p:=0) rfl) rfl,rld rfl fun _ hb=>(bR (v:= .bool neg2) ((st.b 1 rfl rfl).below hb) rfl),(by intro a' w' hF' hb hd;have e6:=tE hd 0 rfl;have e8:=tE hd 1 rfl;exact dv0 (aq e6 e8 cZ (iQ (d:=(neg1 !=neg2)) rfl)) rfl rfl rfl),rfd 2 (fun _=>cI (p:=1) rfl) rfl,rld rfl fun _ hb=>(cW (v:= .slice ad1 n1 c1) ((st.b 2 rfl rfl).below hb) rfl),rfd 1 (fun _=>cI (p:=1) rfl) rfl,rld rfl fun _ hb=>(cW (v:= .slice ad2 n2 c2) ((st.b 1 rfl rfl).below hb) rfl),ck st DE rfl fun _ s=>bW (rJ _ _ _ _ _ (hN1.below s.bel) (hN2.below s.bel) (Lim.dl ln1 _ (by omega)) (Lim.dl ln2 _ (by omega))),ck st nH rfl fun _ s _ x14=>eI (dK _ _ _ _ x14) (lI _ (Lim.mul ln1 ln2)),trivial⟩ ?_
 intro a w4 hF bb hall
 replace st:=st.to bb
 obtain⟨vv5,hF,st⟩:=rS hall hF st 10 rfl rfl Wl.cl
 obtain⟨ad7,n7,c7,rfl,_⟩:=Wc.shape (st.f 0 rfl).1
 clear hall bb
 refine so st hF 0 1 0 bw rfl rfl rfl rfl fun w8 a st hF=>?_
 have hf9:=Wc.abs (st.f 0 rfl).1
 replace st:=st.add hf9 (Dg.cl _)
 clear hf9
 refine nr<|rs Tryz.results154 st hF 1 0 bw rfl rfl rfl ?_
 exact⟨_,rfl,Wc.cast ((st.f 1 rfl).1) (AC neg1 neg2 N1 N2),st.bel⟩
theorem Js (v1 v2:Value) (z1:Int) (neg2:Bool) (N2 ka kb:Nat) (w:World) (h1:Wz w v1 z1) (h2:Nt w v2 N2) (l1:Lim z1.natAbs ka) (l2:Lim N2 kb) (ha:ka<=1000000) (hb:kb<=1000000):
 CP 209 #[v1,.bool neg2,v2] w (fK w (z1+sg neg2 N2)):=by
 obtain⟨neg1,ad1,n1,c1,N1,rfl,hN1,rfl⟩:=h1.shape
 have h1:Wz w (.agg #[.bool neg1,.slice ad1 n1 c1]) (sg neg1 N1):=⟨_,_,_,rfl,hN1,rfl⟩
 obtain⟨ad2,n2,c2,rfl⟩:=h2.form
 have ln1:Lim N1 ka:=by rwa[dZ] at l1
 have hdl:=(ln1.add l2 1000001 (by omega) (by omega)).dl 1099511627776 (by omega)
 refine gs3 (nt:=43) Tryz.func209 rfl rfl rfl fun a st hF=>wq<|bx st hF 0 rfl rfl fun g3 w1 a st hF=>S.alloc st hF bw rfl rfl fun g6 w2 a st hF=>ns<|wq<|oV hF (az hF.p (cL (p:=0) rfl)) rfl fun a hF=>oV hF (ar hF.o (bR (v:= .bool neg1) (st.b 1 rfl rfl) rfl)) rfl fun a hF=>oM hF 5 rfl rfl fun a hF=>oV hF (aq hF.p hF.o cZ (iw (d:=(neg1 == neg2)) rfl)) rfl fun a hF=>?_
 refine E.nil ?_
 by_cases hc3:(neg1 == neg2)=true
 ·refine wp_cond_true (Eq.trans hF.o (congrArg Value.bool hc3)) ?_
  refine wq<|oM hF 7 rfl rfl fun a hF=>oV hF (az (hF.at 6 rfl) (cI (p:=1) rfl)) rfl fun a hF=>oV hF (ar hF.o (cW (v:= .slice ad1 n1 c1) (st.b 1 rfl rfl) rfl)) rfl fun a hF=>oM hF 11 rfl rfl fun a hF=>S.ck st hF (rgc N8 (aL hF.p hF.o)) (bW (Bh _ _ _ _ _ (hN1.below st.bel) (h2.below st.bel) hdl)) Dg.cl rfl fun vv5 w4 a st hF=>?_
  obtain⟨ad7,n7,c7,rfl⟩:=Dg.form (st.f 0 rfl)
  refine S.ck st hF (rgc nH (aL (hF.at 4 rfl) hF.o)) (gN (dK _ _ _ _ (st.f 0 rfl))) Wc.cl rfl fun vv9 w8 a st hF=>?_
  obtain⟨ad11,n11,c11,rfl,_⟩:=Wc.shape (st.f 0 rfl)
  refine so st hF 0 10 0 bw rfl rfl rfl rfl fun w12 a st hF=>?_
  have hf13:=Wc.abs (st.f 0 rfl)
  replace st:=st.add hf13 (Dg.cl _)
  clear hf13
  refine nr<|rs Tryz.results209 st hF 10 0 bw rfl rfl rfl ?_
  exact⟨_,rfl,Wc.cast (st.f 1 rfl) (Et (eq_of_beq hc3) N1 N2),st.bel⟩
 ·refine wp_cond_false (Eq.trans hF.o (congrArg Value.bool (eq_false_of_ne_true hc3))) ?_
  refine wp_skip<|E.norm<|wp_seq<|wq<|oV hF (az (hF.at 5 rfl) (cI (p:=1) rfl)) rfl fun a hF=>oV hF (ar hF.o (cW (v:= .slice ad1 n1 c1) (st.b 1 rfl rfl) rfl)) rfl fun a hF=>oM hF 10 rfl rfl fun a hF=>?_
  refine S.callt st hF (rgc Ih (aL hF.p hF.o)) (tP _ _ _ _ _ (hN1.below st.bel) (h2.below st.bel)) (fun _ _ h=>h) Dg.cl rfl rfl rfl rfl fun vv15 w14 a st hF=>?_
  obtain⟨ad17,n17,c17,rfl⟩:=Dg.form (st.f 0 rfl)
  refine oM hF 0 rfl rfl fun a hF=>oV hF (aH (v:= .slice ad17 n17 c17) hF.o rfl) rfl fun a hF=>oV hF (aH (v:= .bool (decide ((N2)<=(N1)))) hF.p rfl) rfl fun a hF=>oA hF 1 rfl rfl fun a hF=>oA hF 1 rfl rfl fun a hF=>nq<|oM hF 0 rfl rfl fun a hF=>E.nil ?_
  by_cases hc18:decide ((N2)<=(N1))=true
  ·refine wp_cond_true (Eq.trans hF.o (congrArg Value.bool hc18)) ?_
   refine wq<|oV hF (az (hF.at 15 rfl) (cL (p:=0) rfl)) rfl fun a hF=>oV hF (ar hF.o (bR (v:= .bool neg1) (st.b 1 rfl rfl) rfl)) rfl fun a hF=>oM hF 4 rfl rfl fun a hF=>S.ck st hF (rgc nH (aL hF.p hF.o)) (gN (dK _ _ _ _ (st.f 0 rfl))) Wc.cl rfl fun vv20 w19 a st hF=>?_
   obtain⟨ad22,n22,c22,rfl,_⟩:=Wc.shape (st.f 0 rfl)
   refine so st hF 0 18 0 bw rfl rfl rfl rfl fun w23 a st hF=>?_
   have hf24:=Wc.abs (st.f 0 rfl)
   replace st:=st.add hf24 (Dg.cl _)
   clear hf24
   refine nr<|rs Tryz.results209 st hF 18 0 bw rfl rfl rfl ?_
   exact⟨_,rfl,Wc.cast (st.f 1 rfl) (Br (fun k=>hc3 (beq_iff_eq.2 k)) (of_decide_eq_true hc18)),st.bel⟩
  ·refine wp_cond_false (Eq.trans hF.o (congrArg Value.bool (eq_false_of_ne_true hc18))) ?_
   refine wp_skip<|E.norm<|wq<|oM hF 18 rfl rfl fun a hF=>oV hF (az (hF.at 16 rfl) (cI (p:=1) rfl)) rfl fun a hF=>oV hF (ar hF.o (cW (v:= .slice ad1 n1 c1) (st.b 1 rfl rfl) rfl)) rfl fun a hF=>?_
   refine S.callt st hF (rgc Ih (aL hF.q hF.o)) (tP _ _ _ _ _ (h2.below st.bel) (hN1.below st.bel)) (fun _ _ h=>h) Dg.cl rfl rfl rfl rfl fun vv26 w25 a st hF=>?_
   obtain⟨ad28,n28,c28,rfl⟩:=Dg.form (st.f 0 rfl)
   refine oM hF 0 rfl rfl fun a hF=>oV hF (aH (v:= .slice ad28 n28 c28) hF.o rfl) rfl fun a hF=>oV hF (aH (v:= .bool (decide ((N1)<=(N2)))) hF.p rfl) rfl fun a hF=>oA hF 1 rfl rfl fun a hF=>oA hF 1 rfl rfl fun a hF=>nq<|oM hF 26 rfl rfl fun a hF=>oM hF 2 rfl rfl fun a hF=>S.ck st hF (rgc nH (aL hF.p hF.o)) (gN (dK _ _ _ _ (st.f 0 rfl))) Wc.cl rfl fun vv30 w29 a st hF=>?_
   obtain⟨ad32,n32,c32,rfl,_⟩:=Wc.shape (st.f 0 rfl)
   refine so st hF 0 26 0 bw rfl rfl rfl rfl fun w33 a st hF=>?_
   have hf34:=Wc.abs (st.f 0 rfl)
   replace st:=st.add hf34 (Dg.cl _)
   clear hf34
   refine nr<|rs Tryz.results209 st hF 26 0 bw rfl rfl rfl ?_
   exact⟨_,rfl,Wc.cast (st.f 1 rfl) ((Br (fun k=>hc3 (beq_iff_eq.2 k.symm)) (by simp at hc18;omega)).trans (Int.add_comm _ _)),st.bel⟩
theorem FR (v1 v2:Value) (z1 z2:Int) (ka kb:Nat) (w:World) (h1:Wz w v1 z1) (h2:Wz w v2 z2) (l1:Lim z1.natAbs ka) (l2:Lim z2.natAbs kb) (ha:ka<=1000000) (hb:kb<=1000000):
 CP 147 #[v1,v2] w (fK w (z1+z2)):=by
 obtain⟨neg1,ad1,n1,c1,N1,rfl,hN1,rfl⟩:=h1.shape
 have h1:Wz w (.agg #[.bool neg1,.slice ad1 n1 c1]) (sg neg1 N1):=⟨_,_,_,rfl,hN1,rfl⟩
 obtain⟨neg2,ad2,n2,c2,N2,rfl,hN2,rfl⟩:=h2.shape
 have h2:Wz w (.agg #[.bool neg2,.slice ad2 n2 c2]) (sg neg2 N2):=⟨_,_,_,rfl,hN2,rfl⟩
 have ln1:Lim N1 ka:=by rwa[dZ] at l1
 have ln2:Lim N2 kb:=by rwa[dZ] at l2
 refine gs2 (nt:=11) Tryz.func147 rfl rfl rfl fun a st hF=>wq<|bx st hF 0 rfl rfl fun g2 w1 a st hF=>bx st hF 2 rfl rfl fun g3 w2 a st hF=>S.alloc st hF bw rfl rfl fun g4 w3 a st hF=>nq<|oL hF st 2 2 bw rfl rfl rfl rfl fun a hF=>oV hF (az hF.q (cL (p:=0) rfl)) rfl fun a hF=>oV hF (ar hF.o (bR (v:= .bool neg2) (st.b 1 rfl rfl) rfl)) rfl fun a hF=>oV hF (az (hF.at 4 rfl) (cI (p:=1) rfl)) rfl fun a hF=>oV hF (ar hF.o (cW (v:= .slice ad2 n2 c2) (st.b 1 rfl rfl) rfl)) rfl fun a hF=>?_
 refine S.ck st hF (rgc Ss (vo (hF.at 4 rfl) hF.q hF.o)) (gN (Js _ _ _ _ _ ka kb _ (h1.below st.bel) (hN2.below st.bel) l1 ln2 (by omega) (by omega))) Wc.cl rfl fun vv5 w4 a st hF=>?_
 obtain⟨ad7,n7,c7,rfl,_⟩:=Wc.shape (st.f 0 rfl)
 refine so st hF 0 6 0 bw rfl rfl rfl rfl fun w8 a st hF=>?_
 have hf9:=Wc.abs (st.f 0 rfl)
 replace st:=st.add hf9 (Dg.cl _)
 clear hf9
 refine nr<|rs Tryz.results147 st hF 6 0 bw rfl rfl rfl ?_
 exact⟨_,rfl,(st.f 1 rfl),st.bel⟩
theorem yG (v1 v2:Value) (z1 z2:Int) (w:World) (h1:Wz w v1 z1) (h2:Wz w v2 z2) (ka:Nat) (l1:Lim z1.natAbs ka) (ha:ka<=1000000):
 CP 221 #[v1,v2] w (P2 w z1 z2):=by
 obtain⟨neg1,ad1,n1,c1,N1,rfl,hN1,rfl⟩:=h1.shape
 have h1:Wz w (.agg #[.bool neg1,.slice ad1 n1 c1]) (sg neg1 N1):=⟨_,_,_,rfl,hN1,rfl⟩
 obtain⟨neg2,ad2,n2,c2,N2,rfl,hN2,rfl⟩:=h2.shape
 have h2:Wz w (.agg #[.bool neg2,.slice ad2 n2 c2]) (sg neg2 N2):=⟨_,_,_,rfl,hN2,rfl⟩
 have ln1:Lim N1 ka:=by rwa[dZ] at l1
 have hle:(if(N2)=0 then 0 else(N1)%(N2))<=N2:=by split;omega;exact Nat.le_of_lt (Nat.mod_lt _ (by omega))
 have hdl:dl B32 ((N1)/(N2)+1)<=1099511627776:=((ln1.le (Nat.div_le_self N1 N2)).add (show Lim 1 2 from Lim.of64 (by decide)) 1000001 (by omega) (by omega)).dl 1099511627776 (by omega)
 refine gs2 (nt:=47) Tryz.func221 rfl rfl rfl fun a st hF=>wq<|bx st hF 0 rfl rfl fun g2 w1 a st hF=>bx st hF 2 rfl rfl fun g3 w2 a st hF=>S.alloc st hF bw rfl rfl fun g4 w3 a st hF=>S.alloc st hF bw rfl rfl fun g5 w4 a st hF=>nq<|oV hF (az (hF.at 3 rfl) (cI (p:=1) rfl)) rfl fun a hF=>oV hF (ar hF.o (cW (v:= .slice ad1 n1 c1) (st.b 3 rfl rfl) rfl)) rfl fun a hF=>oV hF (az (hF.at 4 rfl) (cI (p:=1) rfl)) rfl fun a hF=>oV hF (ar hF.o (cW (v:= .slice ad2 n2 c2) (st.b 2 rfl rfl) rfl)) rfl fun a hF=>?_
 refine S.call2 st hF (rgc NE (aL hF.q hF.o)) (uP _ _ _ _ _ (hN1.below st.bel) (hN2.below st.bel)) (fun _ _ h=>h) Dg.cl Dg.cl rfl rfl rfl rfl fun vv6 vv7 w5 a st hF=>?_
 obtain⟨ad10,n10,c10,rfl⟩:=Dg.form (st.f 0 rfl)
 obtain⟨ad11,n11,c11,rfl⟩:=Dg.form (st.f 1 rfl)
 refine oM hF 0 rfl rfl fun a hF=>oV hF (aH (v:= .slice ad10 n10 c10) hF.o rfl) rfl fun a hF=>oV hF (aH (v:= .slice ad11 n11 c11) hF.p rfl) rfl fun a hF=>oA hF 1 rfl rfl fun a hF=>oA hF 1 rfl rfl fun a hF=>ns<|wq<|oV hF (az (hF.at 13 rfl) (cL (p:=0) rfl)) rfl fun a hF=>oV hF (ar hF.o (bR (v:= .bool neg1) (st.b 3 rfl rfl) rfl)) rfl fun a hF=>oV hF (az (hF.at 14 rfl) (cL (p:=0) rfl)) rfl fun a hF=>oV hF (ar hF.o (bR (v:= .bool neg2) (st.b 2 rfl rfl) rfl)) rfl fun a hF=>oV hF (aq hF.q hF.o cZ (iQ (d:=(neg1 !=neg2)) rfl)) rfl fun a hF=>oM hF 0 rfl rfl fun a hF=>?_
 by_cases hc12:(neg1 !=neg2)=true
 ·refine E.opvg hF (aD (hF.at 6 rfl)) (au rfl rfl (Eq.trans hF.o (congrArg Value.bool hc12)) rfl) rfl rfl rfl fun a hF=>?_
  refine E.opvg hF (aW (aG hF.o) yY) (au rfl rfl (Eq.trans hF.p (congrArg Value.bool hc12)) rfl) rfl rfl rfl fun a hF=>?_
  by_cases hc13:0<((n11:Nat):Int)
  ·refine E.opvg hF (aq hF.o ao aa (aO (bT (c:=true) (aI hc13)) (by simp))) (au rfl rfl (Eq.trans hF.q (congrArg Value.bool hc12)) rfl) rfl rfl rfl fun a hF=>?_
   refine oV hF (aK (Eq.trans (hF.at 3 rfl) (congrArg Value.bool hc12)) hF.o) rfl fun a hF=>E.nil<|wp_cond_true hF.o<|wp_seq ?_
   have hz:¬(if(N2)=0 then 0 else(N1)%(N2))=0:=fun k=>by have h:=(st.f 1 rfl);rw[k] at h;have:=Dg.len0 h;omega
   refine E.seq<|oM hF 11 rfl rfl fun a hF=>S.ck st hF (rgc k66 (aG ao)) (bW (rF 1 _ (by decide))) Dg.cl rfl fun vv15 w14 a st hF=>?_
   obtain⟨ad17,n17,c17,rfl⟩:=Dg.form (st.f 0 rfl)
   refine S.ck st hF (rgc N8 (aL hF.p hF.o)) (bW (Bh _ _ _ _ _ (Dg.nt (st.f 1 rfl)) (Dg.nt (st.f 0 rfl)) hdl)) Dg.cl rfl fun vv19 w18 a st hF=>?_
   obtain⟨ad21,n21,c21,rfl⟩:=Dg.form (st.f 0 rfl)
   refine oE hF 0 rfl rfl fun a hF=>E.nil<|E.seq<|oV hF (az (hF.at 25 rfl) (cI (p:=1) rfl)) rfl fun a hF=>oV hF (ar hF.o (cW (v:= .slice ad2 n2 c2) (st.b 2 rfl rfl) rfl)) rfl fun a hF=>oM hF 16 rfl rfl fun a hF=>?_
   refine S.callt st hF (rgc Ih (aL hF.p hF.o)) (tP _ _ _ _ _ (hN2.below st.bel) (Dg.nt (st.f 3 rfl))) (fun _ _ h=>h) Dg.cl rfl rfl rfl rfl fun vv23 w22 a st hF=>?_
   obtain⟨ad25,n25,c25,rfl⟩:=Dg.form (st.f 0 rfl)
   refine oM hF 0 rfl rfl fun a hF=>oV hF (aH (v:= .slice ad25 n25 c25) hF.o rfl) rfl fun a hF=>oV hF (aH (v:= .bool (decide (((if(N2)=0 then 0 else(N1)%(N2)))<=(N2)))) hF.p rfl) rfl fun a hF=>oE hF 1 rfl rfl fun a hF=>ns ?_
   refine E.rg 11 aM hF [36,37,38,39,40,41,42,43,44,45,46] [_,_,_,_,.ex (.bool (neg1 !=neg2)),_,_,_,_,_,_] (by decide+kernel) rfl rfl rfl ⟨rfd 33 (fun _=>cL (p:=0) rfl) rfl,rld rfl fun _ hb=>(bR (v:= .bool neg1) ((st.b 3 rfl rfl).below hb) rfl),rfd 32 (fun _=>cL (p:=0) rfl) rfl,rld rfl fun _ hb=>(bR (v:= .bool neg2) ((st.b 2 rfl rfl).below hb) rfl),(by intro a' w' hF' hb hd;have e37:=tE hd 0 rfl;have e39:=tE hd 1 rfl;exact dv0 (aq e37 e39 cZ (iQ (d:=(neg1 !=neg2)) rfl)) rfl rfl rfl),rm 8 rfl,ck st nH rfl fun _ s=>gN (dK _ _ _ _ (s.f 1 rfl)),rfd 32 (fun _=>cL (p:=0) rfl) rfl,rld rfl fun _ hb=>(bR (v:= .bool neg2) ((st.b 2 rfl rfl).below hb) rfl),rm 0 rfl,ck st nH rfl fun _ s=>gN (dK _ _ _ _ (s.f 0 rfl)),trivial⟩ ?_
   intro a w26 hF bb hall
   replace st:=st.to bb
   obtain⟨vv27,hF,st⟩:=rS hall hF st 6 rfl rfl Wc.cl
   obtain⟨ad29,n29,c29,rfl,_⟩:=Wc.shape (st.f 0 rfl)
   obtain⟨vv30,hF,st⟩:=rS hall hF st 10 rfl rfl Wc.cl
   obtain⟨ad32,n32,c32,rfl,_⟩:=Wc.shape (st.f 0 rfl)
   clear hall bb
   refine so st hF 1 33 1 bw rfl rfl rfl rfl fun w33 a st hF=>?_
   have hf34:=Wc.abs (st.f 1 rfl)
   replace st:=st.add hf34 (Dg.cl _)
   clear hf34
   refine so st hF 0 32 0 bw rfl rfl rfl rfl fun w35 a st hF=>?_
   have hf36:=Wc.abs (st.f 1 rfl)
   replace st:=st.add hf36 (Dg.cl _)
   clear hf36
   refine nr ?_
   have bel:=st.bel
   refine bodyPost_ret (gh Tryz.results221 (hF.at 33 rfl) (bK bw (st.bk 1 rfl) rfl) (hF.at 32 rfl) (bK bw (st.bk 0 rfl) rfl)) hF.dfr ?_
   have hh28:=(st.f 3 rfl)
   have hh31:=(st.f 2 rfl)
   have HE:=E0 (bne_iff_ne.1 hc12) N1 N2 hz
   exact⟨_,_,rfl,Wc.cast hh28 HE.1,Wc.cast hh31 HE.2,bel⟩
  ·refine E.opvg hF (aq hF.o ao aa (aO (bT (c:=false) (aJ hc13)) (by simp))) (au rfl rfl (Eq.trans hF.q (congrArg Value.bool hc12)) rfl) rfl rfl rfl fun a hF=>?_
   refine oV hF (aK (Eq.trans (hF.at 3 rfl) (congrArg Value.bool hc12)) hF.o) rfl fun a hF=>E.nil<|wp_cond_false hF.o<|wp_skip<|E.norm<|wp_seq ?_
   have hz:(if(N2)=0 then 0 else(N1)%(N2))=0:=Decidable.byContradiction fun k=>hc13 (by have:=Dg.lenp (by decide) (st.f 1 rfl) (by omega);omega)
   refine E.rg 11 aM hF [36,37,38,39,40,41,42,43,44,45,46] [_,_,_,_,.ex (.bool (neg1 !=neg2)),_,_,_,_,_,_] (by decide+kernel) rfl rfl rfl ⟨rfd 23 (fun _=>cL (p:=0) rfl) rfl,rld rfl fun _ hb=>(bR (v:= .bool neg1) ((st.b 3 rfl rfl).below hb) rfl),rfd 22 (fun _=>cL (p:=0) rfl) rfl,rld rfl fun _ hb=>(bR (v:= .bool neg2) ((st.b 2 rfl rfl).below hb) rfl),(by intro a' w' hF' hb hd;have e37:=tE hd 0 rfl;have e39:=tE hd 1 rfl;exact dv0 (aq e37 e39 cZ (iQ (d:=(neg1 !=neg2)) rfl)) rfl rfl rfl),rm 11 rfl,ck st nH rfl fun _ s=>eI (dK _ _ _ _ (s.f 0 rfl)) (lI _ (Lim.le ln1 (Nat.div_le_self _ _))),rfd 22 (fun _=>cL (p:=0) rfl) rfl,rld rfl fun _ hb=>(bR (v:= .bool neg2) ((st.b 2 rfl rfl).below hb) rfl),rm 10 rfl,ck st nH rfl fun _ s=>gN (dK _ _ _ _ (s.f 1 rfl)),trivial⟩ ?_
   intro a w37 hF bb hall
   replace st:=st.to bb
   obtain⟨vv38,hF,st⟩:=rS hall hF st 6 rfl rfl Wl.cl
   obtain⟨ad40,n40,c40,rfl,_⟩:=Wc.shape (st.f 0 rfl).1
   obtain⟨vv41,hF,st⟩:=rS hall hF st 10 rfl rfl Wc.cl
   obtain⟨ad43,n43,c43,rfl,_⟩:=Wc.shape (st.f 0 rfl)
   clear hall bb
   refine so st hF 1 23 1 bw rfl rfl rfl rfl fun w44 a st hF=>?_
   have hf45:=Wc.abs (st.f 1 rfl).1
   replace st:=st.add hf45 (Dg.cl _)
   clear hf45
   refine so st hF 0 22 0 bw rfl rfl rfl rfl fun w46 a st hF=>?_
   have hf47:=Wc.abs (st.f 1 rfl)
   replace st:=st.add hf47 (Dg.cl _)
   clear hf47
   refine nr ?_
   have bel:=st.bel
   refine bodyPost_ret (gh Tryz.results221 (hF.at 23 rfl) (bK bw (st.bk 1 rfl) rfl) (hF.at 22 rfl) (bK bw (st.bk 0 rfl) rfl)) hF.dfr ?_
   have hh39:=(st.f 3 rfl).1
   have hh42:=(st.f 2 rfl)
   have HE:=FO (bne_iff_ne.1 hc12) N1 N2 hz
   exact⟨_,_,rfl,Wc.cast hh39 HE.1,Wc.cast hh42 HE.2,bel⟩
 ·refine E.unwanted hF (au rfl rfl (Eq.trans hF.o (congrArg Value.bool (eq_false_of_ne_true hc12))) rfl) rfl rfl rfl fun a hF=>?_
  refine E.unwanted hF (au rfl rfl (Eq.trans hF.p (congrArg Value.bool (eq_false_of_ne_true hc12))) rfl) rfl rfl rfl fun a hF=>?_
  refine E.unwanted hF (au rfl rfl (Eq.trans hF.q (congrArg Value.bool (eq_false_of_ne_true hc12))) rfl) rfl rfl rfl fun a hF=>?_
  refine oV hF (aQ (Eq.trans (hF.at 3 rfl) (congrArg Value.bool (eq_false_of_ne_true hc12))) ao) rfl fun a hF=>E.nil<|wp_cond_false hF.o<|wp_skip<|E.norm<|wp_seq ?_
  refine E.rg 11 aM hF [36,37,38,39,40,41,42,43,44,45,46] [_,_,_,_,.ex (.bool (neg1 !=neg2)),_,_,_,_,_,_] (by decide+kernel) rfl rfl rfl ⟨rfd 23 (fun _=>cL (p:=0) rfl) rfl,rld rfl fun _ hb=>(bR (v:= .bool neg1) ((st.b 3 rfl rfl).below hb) rfl),rfd 22 (fun _=>cL (p:=0) rfl) rfl,rld rfl fun _ hb=>(bR (v:= .bool neg2) ((st.b 2 rfl rfl).below hb) rfl),(by intro a' w' hF' hb hd;have e37:=tE hd 0 rfl;have e39:=tE hd 1 rfl;exact dv0 (aq e37 e39 cZ (iQ (d:=(neg1 !=neg2)) rfl)) rfl rfl rfl),rm 11 rfl,ck st nH rfl fun _ s=>eI (dK _ _ _ _ (s.f 0 rfl)) (lI _ (Lim.le ln1 (Nat.div_le_self _ _))),rfd 22 (fun _=>cL (p:=0) rfl) rfl,rld rfl fun _ hb=>(bR (v:= .bool neg2) ((st.b 2 rfl rfl).below hb) rfl),rm 10 rfl,ck st nH rfl fun _ s=>gN (dK _ _ _ _ (s.f 1 rfl)),trivial⟩ ?_
  intro a w48 hF bb hall
  replace st:=st.to bb
  obtain⟨vv49,hF,st⟩:=rS hall hF st 6 rfl rfl Wl.cl
  obtain⟨ad51,n51,c51,rfl,_⟩:=Wc.shape (st.f 0 rfl).1
  obtain⟨vv52,hF,st⟩:=rS hall hF st 10 rfl rfl Wc.cl
  obtain⟨ad54,n54,c54,rfl,_⟩:=Wc.shape (st.f 0 rfl)
  clear hall bb
  refine so st hF 1 23 1 bw rfl rfl rfl rfl fun w55 a st hF=>?_
  have hf56:=Wc.abs (st.f 1 rfl).1
  replace st:=st.add hf56 (Dg.cl _)
  clear hf56
  refine so st hF 0 22 0 bw rfl rfl rfl rfl fun w57 a st hF=>?_
  have hf58:=Wc.abs (st.f 1 rfl)
  replace st:=st.add hf58 (Dg.cl _)
  clear hf58
  refine nr ?_
  have bel:=st.bel
  refine bodyPost_ret (gh Tryz.results221 (hF.at 23 rfl) (bK bw (st.bk 1 rfl) rfl) (hF.at 22 rfl) (bK bw (st.bk 0 rfl) rfl)) hF.dfr ?_
  have hh50:=(st.f 3 rfl).1
  have hh53:=(st.f 2 rfl)
  have HE:=EJ (bne_eq_false_iff_eq.1 (eq_false_of_ne_true hc12)) N1 N2
  exact⟨_,_,rfl,Wc.cast hh50 HE.1,Wc.cast hh53 HE.2,bel⟩
end Go.Proofs.YtgdpkknapcgcbaaGreatDoor
