import Derived.Test.YtplngpfpcheofaaGreatDoorKE27
import Derived.Test.YtplngpfpcheofaaGreatDoorKE33
namespace Go.Proofs.YtplngpfpcheofaaGreatDoor
open Go.RowKit
set_option maxRecDepth 100000
set_option linter.unusedVariables false
set_option maxHeartbeats 8000000
def gZ (t:Rat):Rat:=aH (aU t+bi t) ((360:Int):Rat)
theorem yL {x:Rat} {n:Int} (hn:0<n) (hn2:n≤1000) (h0:0≤x) (h1:x<((360:Int):Rat)):ev (Rat.floor (x*(((n:Int):Rat)/((360:Int):Rat))))=prt x n:=by
 have:=cj hn h0 h1
 exact rE (show _≤prt x n by omega) (show prt x n≤_ by omega)
theorem mD (w:World):
 Calls Tryz.prog 97 #[] w (pL w pyr pay ssz sch):=by
 have st:=St.start w
 refine go0 (nt:=6) Tryz.func97 rfl rfl fun a hF=>?_
 refine wq ?_
 refine S.alloc st hF gN rfl rfl fun g0 w1 a st hF=>?_
 refine nq ?_
 refine ca st hF (rk AG eh) (tg _) (fun _ _ h=>h) Rq.cl rfl fun vv3 w2 a st hF=>?_
 obtain⟨r5,rfl⟩:=Rq.fo (st.f 0 rfl)
 refine ca st hF (rk AM eh) (kn _) (fun _ _ h=>h) Rq.cl rfl fun vv7 w6 a st hF=>?_
 obtain⟨r9,rfl⟩:=Rq.fo (st.f 0 rfl)
 refine ca st hF (rk k22 (ar ao ao)) (bZ (14) (360) _ (by decide) (by decide) (by decide) (by decide)) (fun _ _ h=>h) Rq.cl rfl fun vv11 w10 a st hF=>?_
 obtain⟨r13,rfl⟩:=Rq.fo (st.f 0 rfl)
 refine ca st hF (rk k22 (ar ao ao)) (bZ (1) (42) _ (by decide) (by decide) (by decide) (by decide)) (fun _ _ h=>h) Rq.cl rfl fun vv15 w14 a st hF=>?_
 obtain⟨r17,rfl⟩:=Rq.fo (st.f 0 rfl)
 refine oV hF (aW (vi (hF.at 3 rfl) (hF.at 2 rfl) (hF.at 1 rfl) (hF.at 0 rfl)) (kd _ _ _ _ _ _ _ _ _ _ _ _ _ _ _ _ _ _ _ _ _ _ _ _ _ _ _ _ _)) rfl fun a hF=>?_
 refine so st hF 0 5 0 gN rfl rfl rfl rfl fun w18 a st hF=>?_
 refine nr ?_
 refine rs Tryz.results97 st hF 5 0 gN rfl rfl rfl ?_
 have bel:=st.bel
 exact⟨_,rfl,⟨_,_,_,_,_,_,_,_,_,_,_,_,_,_,_,_,_,_,_,_,_,_,_,_,_,_,_,_,rfl,(st.f 3 rfl),(st.f 2 rfl),(st.f 1 rfl),(st.f 0 rfl)⟩,bel⟩
theorem lK (w:World):
 Calls Tryz.prog 95 #[] w (pL w pmo pam msz mch):=by
 have st:=St.start w
 refine go0 (nt:=6) Tryz.func95 rfl rfl fun a hF=>?_
 refine wq ?_
 refine S.alloc st hF gN rfl rfl fun g0 w1 a st hF=>?_
 refine nq ?_
 refine ca st hF (rk AB eh) (qF _) (fun _ _ h=>h) Rq.cl rfl fun vv3 w2 a st hF=>?_
 obtain⟨r5,rfl⟩:=Rq.fo (st.f 0 rfl)
 refine ca st hF (rk AN eh) (j6 _) (fun _ _ h=>h) Rq.cl rfl fun vv7 w6 a st hF=>?_
 obtain⟨r9,rfl⟩:=Rq.fo (st.f 0 rfl)
 refine ca st hF (rk k22 (ar ao ao)) (bZ (32) (360) _ (by decide) (by decide) (by decide) (by decide)) (fun _ _ h=>h) Rq.cl rfl fun vv11 w10 a st hF=>?_
 obtain⟨r13,rfl⟩:=Rq.fo (st.f 0 rfl)
 refine ca st hF (rk k22 (ar ao ao)) (bZ (1) (96) _ (by decide) (by decide) (by decide) (by decide)) (fun _ _ h=>h) Rq.cl rfl fun vv15 w14 a st hF=>?_
 obtain⟨r17,rfl⟩:=Rq.fo (st.f 0 rfl)
 refine oV hF (aW (vi (hF.at 3 rfl) (hF.at 2 rfl) (hF.at 1 rfl) (hF.at 0 rfl)) (kd _ _ _ _ _ _ _ _ _ _ _ _ _ _ _ _ _ _ _ _ _ _ _ _ _ _ _ _ _)) rfl fun a hF=>?_
 refine so st hF 0 5 0 gN rfl rfl rfl rfl fun w18 a st hF=>?_
 refine nr ?_
 refine rs Tryz.results95 st hF 5 0 gN rfl rfl rfl ?_
 have bel:=st.bel
 exact⟨_,rfl,⟨_,_,_,_,_,_,_,_,_,_,_,_,_,_,_,_,_,_,_,_,_,_,_,_,_,_,_,_,rfl,(st.f 3 rfl),(st.f 2 rfl),(st.f 1 rfl),(st.f 0 rfl)⟩,bel⟩
theorem wI (v1 v2:Value) (qp qa qs qc qt:Rat) (k:Nat) (w:World) (hT:cG w) (ho:Orb w v1 qp qa qs qc) (h2:Rq w v2 qt) (lqp:az qp 2) (lqa:az qa 2) (lqs:az qs 2) (lqc:az qc 2) (hl:az qt k) (hk:k≤100):
 Calls Tryz.prog 135 #[v1,v2] w (bg w (eqv qt qa qs qc)):=by
 obtain⟨qb1,qx1,qn1,qk1,qy1,qm1,qd1,qb2,qx2,qn2,qk2,qy2,qm2,qd2,qb3,qx3,qn3,qk3,qy3,qm3,qd3,qb4,qx4,qn4,qk4,qy4,qm4,qd4,rfl,hr1,hr2,hr3,hr4⟩:=ho
 have ho:Orb w (.agg #[.bool qb1,.slice qx1 qn1 qk1,.slice qy1 qm1 qd1,.bool qb2,.slice qx2 qn2 qk2,.slice qy2 qm2 qd2,.bool qb3,.slice qx3 qn3 qk3,.slice qy3 qm3 qd3,.bool qb4,.slice qx4 qn4 qk4,.slice qy4 qm4 qd4]) qp qa qs qc:=⟨_,_,_,_,_,_,_,_,_,_,_,_,_,_,_,_,_,_,_,_,_,_,_,_,_,_,_,_,rfl,hr1,hr2,hr3,hr4⟩
 have st:=St.start w
 refine go2 (nt:=27) Tryz.func135 rfl rfl rfl fun a hF=>?_
 refine wq ?_
 refine bx st hF 0 rfl rfl fun g2 w1 a st hF=>?_
 obtain⟨r3,rfl⟩:=Rq.fo h2
 refine bx st hF 2 rfl rfl fun g3 w2 a st hF=>?_
 refine S.alloc st hF ag rfl rfl fun g4 w4 a st hF=>?_
 refine nq ?_
 refine oL hF st 1 1 ag rfl rfl rfl rfl fun a hF=>?_
 refine oV hF (aA (hF.at 3 rfl) (ut (p:=3) rfl)) rfl fun a hF=>?_
 refine oV hF (aw (hF.at 0 rfl) (fZ (vs:=[.bool qb2,.slice qx2 qn2 qk2,.slice qy2 qm2 qd2]) (st.b 2 rfl rfl) rfl rfl)) rfl fun a hF=>?_
 refine ca st hF (rk xT (ar (hF.at 2 rfl) (hF.at 0 rfl))) (pU _ _ (qt) (qa) k 2 _ (h2.below st.bel) (hr2.below st.bel) hl lqa (by omega) (by omega)) (fun _ _ h=>h) Rq.cl rfl fun vv6 w5 a st hF=>?_
 obtain⟨r8,rfl⟩:=Rq.fo (st.f 0 rfl)
 refine ca st hF (rk Ay (aB (hF.at 0 rfl))) (vI _ _ (k+2+5) _ (hT.below st.bel) (st.f 0 rfl) (cE hl lqa) (by omega)) (fun _ _ h=>h) Rq.cl rfl fun vv10 w9 a st hF=>?_
 obtain⟨r12,rfl⟩:=Rq.fo (st.f 0 rfl)
 refine S.new st hF 0 rfl ag rfl rfl rfl rfl rfl fun g5 w13 a st hF=>?_
 refine ns ?_
 refine eD 9 aJ hF [12,13,14,15,16,17,18,19,6] [(Iz r12.v),(Iq (Rat.abs (sof (mof (qt) (qa))))),(Iz (.pointer (some ⟨g2,9,none⟩))),(Iz (.agg #[.bool qb4,.slice qx4 qn4 qk4,.slice qy4 qm4 qd4])),(Iq ((Rat.abs (sof (mof (qt) (qa))))*(qc))),(Iz (.pointer (some ⟨g2,6,none⟩))),(Iz (.agg #[.bool qb3,.slice qx3 qn3 qk3,.slice qy3 qm3 qd3])),(Iq (((Rat.abs (sof (mof (qt) (qa))))*(qc))*(qs))),(Ip w13)] [8] (by decide+kernel) rfl rfl ⟨fun _ _ ⟨g,e,_,o⟩=>⟨g,e,o.lt⟩,trivial⟩ ⟨?_,?_,?_,?_,?_,?_,?_,?_,?_,trivial⟩ ?_
 ·exact qL st 0 0 ag rfl rfl rfl rfl rfl
 ·intro a' w' hF' hb hd
  have e12:=tE hd 0 rfl
  exact dc0 (rk k41 (aB e12)) (tJ _ _ _ ((st.f 0 rfl).below hb)) rfl rfl
 ·intro a' w' hF' hb hd
  exact dv0 (aA (hF'.at 8 rfl) (uV (p:=9) rfl)) rfl rfl rfl
 ·intro a' w' hF' hb hd
  have e14:=tE hd 0 rfl
  exact dv0 (aw e14 (fZ (vs:=[.bool qb4,.slice qx4 qn4 qk4,.slice qy4 qm4 qd4]) ((st.b 3 rfl rfl).below hb) rfl rfl)) rfl rfl rfl
 ·intro a' w' hF' hb hd
  obtain⟨v13_0,e13,h13_1⟩:=tH hd 0 rfl
  have e15:=tE hd 1 rfl
  exact dc0 (rk gL (ar e13 e15)) (di _ _ _ (qc) (max ((k+2+5)+12) 2) _ h13_1 (hr4.below (aa st.bel hb)) ((fk (dD (cE hl lqa))).up _ (by omega)) (lqc.up _ (by omega)) (by omega)) rfl rfl
 ·intro a' w' hF' hb hd
  exact dv0 (aA (hF'.at 8 rfl) (nf (p:=6) rfl)) rfl rfl rfl
 ·intro a' w' hF' hb hd
  have e17:=tE hd 0 rfl
  exact dv0 (aw e17 (fZ (vs:=[.bool qb3,.slice qx3 qn3 qk3,.slice qy3 qm3 qd3]) ((st.b 3 rfl rfl).below hb) rfl rfl)) rfl rfl rfl
 ·intro a' w' hF' hb hd
  obtain⟨v16_0,e16,h16_1⟩:=tH hd 0 rfl
  have e18:=tE hd 1 rfl
  exact dc0 (rk gL (ar e16 e18)) (di _ _ _ (qs) (max (((k+2+5)+12)+2) 2) _ h16_1 (hr3.below (aa st.bel hb)) ((aV (fk (dD (cE hl lqa))) lqc).up _ (by omega)) (lqs.up _ (by omega)) (by omega)) rfl rfl
 ·intro a' w' hF' hb hd
  exact da0 ag rfl hb.size rfl
 intro a w14 hF bb hall hne
 have s0:=st
 replace st:=st.to bb
 obtain⟨vv15,hF,st⟩:=aS hall hF st 7 rfl rfl Rq.cl
 obtain⟨_,e6,g6,rfl,ge6,o6⟩:=sS hall 8 6 rfl rfl
 replace st:=st.push o6.blk (Nat.le_trans s0.bel.size ge6) (s0.ne ge6)
 clear o6
 clear hall hne bb s0
 obtain⟨r17,rfl⟩:=Rq.fo (st.f 0 rfl)
 replace hF:=hF.add e6
 clear e6
 refine so st hF 0 0 1 ag rfl rfl rfl rfl fun w18 a st hF=>?_
 refine ns ?_
 refine eD 7 aJ hF [20,21,22,23,24,25,26] [(Iz r12.v),(Iz (.pointer (some ⟨g2,6,none⟩))),(Iz (.agg #[.bool qb3,.slice qx3 qn3 qk3,.slice qy3 qm3 qd3])),(Iz r17.v),(Iq ((qs)-(((Rat.abs (sof (mof (qt) (qa))))*(qc))*(qs)))),(Iq ((sof (mof (qt) (qa)))*((qs)-(((Rat.abs (sof (mof (qt) (qa))))*(qc))*(qs))))),(Iq (cK ((sof (mof (qt) (qa)))*((qs)-(((Rat.abs (sof (mof (qt) (qa))))*(qc))*(qs))))))] [] (by decide+kernel) rfl rfl trivial ⟨?_,?_,?_,?_,?_,?_,?_,trivial⟩ ?_
 ·exact qL st 2 1 ag rfl rfl rfl rfl rfl
 ·intro a' w' hF' hb hd
  exact dv0 (aA (hF'.at 10 rfl) (nf (p:=6) rfl)) rfl rfl rfl
 ·intro a' w' hF' hb hd
  have e21:=tE hd 0 rfl
  exact dv0 (aw e21 (fZ (vs:=[.bool qb3,.slice qx3 qn3 qk3,.slice qy3 qm3 qd3]) ((st.b 4 rfl rfl).below hb) rfl rfl)) rfl rfl rfl
 ·exact qL st 0 0 ag rfl rfl rfl rfl rfl
 ·intro a' w' hF' hb hd
  have e22:=tE hd 0 rfl
  have e23:=tE hd 1 rfl
  exact dc0 (rk k37 (ar e22 e23)) (dU _ _ (qs) _ (max 2 ((((k+2+5)+12)+2)+2)) _ (hr3.below (aa st.bel hb)) ((st.f 0 rfl).below hb) (lqs.up _ (by omega)) ((aV (aV (fk (dD (cE hl lqa))) lqc) lqs).up _ (by omega)) (by omega)) rfl rfl
 ·intro a' w' hF' hb hd
  have e20:=tE hd 0 rfl
  obtain⟨v24_0,e24,h24_1⟩:=tH hd 1 rfl
  exact dc0 (rk gL (ar e20 e24)) (di _ _ _ ((qs)-(((Rat.abs _)*(qc))*(qs))) (max ((k+2+5)+12) (2+((((k+2+5)+12)+2)+2)+1)) _ ((st.f 1 rfl).below hb) h24_1 ((dD (cE hl lqa)).up _ (by omega)) ((bl lqs (aV (aV (fk (dD (cE hl lqa))) lqc) lqs)).up _ (by omega)) (by omega)) rfl rfl
 ·intro a' w' hF' hb hd
  obtain⟨v25_0,e25,h25_1⟩:=tH hd 0 rfl
  exact dc0 (rk xY (aB e25)) (t8 _ _ (((k+2+5)+12)+(2+((((k+2+5)+12)+2)+2)+1)) _ (hT.below (aa st.bel hb)) h25_1 (aV (dD (cE hl lqa)) (bl lqs (aV (aV (fk (dD (cE hl lqa))) lqc) lqs))) (by omega)) rfl rfl
 intro a w19 hF bb hall hne
 replace st:=st.to bb
 obtain⟨vv20,hF,st⟩:=aS hall hF st 6 rfl rfl Rq.cl
 clear hall hne bb
 obtain⟨r22,rfl⟩:=Rq.fo (st.f 0 rfl)
 refine so st hF 2 9 0 ag rfl rfl rfl rfl fun w23 a st hF=>?_
 refine nr ?_
 refine rs Tryz.results135 st hF 9 2 ag rfl rfl rfl ?_
 have bel:=st.bel
 exact⟨_,rfl,(st.f 0 rfl),bel⟩
theorem fR (v1:Value) (qt:Rat) (k:Nat) (w:World) (h1:Rq w v1 qt) (hl:az qt k) (hk:k≤1000):
 Calls Tryz.prog 55 #[v1] w (bg w (aH qt ((360:Int):Rat))):=by
 have st:=St.start w
 refine go1 (nt:=6) Tryz.func55 rfl rfl rfl fun a hF=>?_
 refine wq ?_
 obtain⟨r2,rfl⟩:=Rq.fo h1
 refine bx st hF 0 rfl rfl fun g1 w1 a st hF=>?_
 refine S.alloc st hF ag rfl rfl fun g2 w3 a st hF=>?_
 refine ns ?_
 refine eD 3 aJ hF [3,4,5] [(Iz r2.v),(Iq (((360:Int):Rat))),(Iq (aH (qt) (((360:Int):Rat))))] [] (by decide+kernel) rfl rfl trivial ⟨?_,?_,?_,trivial⟩ ?_
 ·exact qL st 1 1 ag rfl rfl rfl rfl rfl
 ·intro a' w' hF' hb hd
  exact dc0 (rk k20 (aB ao)) (bK (360) _ (by decide) (by decide)) rfl rfl
 ·intro a' w' hF' hb hd
  have e3:=tE hd 0 rfl
  obtain⟨v4_0,e4,h4_1⟩:=tH hd 1 rfl
  exact dc0 (rk k94 (ar e3 e4)) (nY _ _ (qt) _ k 2 _ (h1.below (aa st.bel hb)) h4_1 hl (aN (aD (by decide) (by decide)) (by omega)) (by omega) (by omega)) rfl rfl
 intro a w4 hF bb hall hne
 replace st:=st.to bb
 obtain⟨vv5,hF,st⟩:=aS hall hF st 2 rfl rfl Rq.cl
 clear hall hne bb
 obtain⟨r7,rfl⟩:=Rq.fo (st.f 0 rfl)
 refine so st hF 0 1 0 ag rfl rfl rfl rfl fun w8 a st hF=>?_
 refine nr ?_
 refine rs Tryz.results55 st hF 1 0 ag rfl rfl rfl ?_
 have bel:=st.bel
 exact⟨_,rfl,(st.f 0 rfl),bel⟩
theorem pc (v1 v2:Value) (qp qa qs qc qt:Rat) (k:Nat) (w:World) (hT:cG w) (ho:Orb w v1 qp qa qs qc) (h2:Rq w v2 qt) (lqp:az qp 2) (lqa:az qa 2) (lqs:az qs 2) (lqc:az qc 2) (hl:az qt k) (hk:k≤100):
 Calls Tryz.prog 96 #[v1,v2] w (bg w (atv qt qp qa qs qc)):=by
 obtain⟨qb1,qx1,qn1,qk1,qy1,qm1,qd1,qb2,qx2,qn2,qk2,qy2,qm2,qd2,qb3,qx3,qn3,qk3,qy3,qm3,qd3,qb4,qx4,qn4,qk4,qy4,qm4,qd4,rfl,hr1,hr2,hr3,hr4⟩:=ho
 have ho:Orb w (.agg #[.bool qb1,.slice qx1 qn1 qk1,.slice qy1 qm1 qd1,.bool qb2,.slice qx2 qn2 qk2,.slice qy2 qm2 qd2,.bool qb3,.slice qx3 qn3 qk3,.slice qy3 qm3 qd3,.bool qb4,.slice qx4 qn4 qk4,.slice qy4 qm4 qd4]) qp qa qs qc:=⟨_,_,_,_,_,_,_,_,_,_,_,_,_,_,_,_,_,_,_,_,_,_,_,_,_,_,_,_,rfl,hr1,hr2,hr3,hr4⟩
 have st:=St.start w
 refine go2 (nt:=14) Tryz.func96 rfl rfl rfl fun a hF=>?_
 refine wq ?_
 refine bx st hF 0 rfl rfl fun g2 w1 a st hF=>?_
 obtain⟨r3,rfl⟩:=Rq.fo h2
 refine bx st hF 2 rfl rfl fun g3 w2 a st hF=>?_
 refine S.alloc st hF ag rfl rfl fun g4 w4 a st hF=>?_
 refine ns ?_
 refine eD 9 aJ hF [5,6,7,8,9,10,11,12,13] [(Iz r3.v),(Iz (.pointer (some ⟨g2,0,none⟩))),(Iz (.agg #[.bool qb1,.slice qx1 qn1 qk1,.slice qy1 qm1 qd1])),(Iq (mof (qt) (qp))),(Iz (.agg #[.bool qb1,.slice qx1 qn1 qk1,.slice qy1 qm1 qd1,.bool qb2,.slice qx2 qn2 qk2,.slice qy2 qm2 qd2,.bool qb3,.slice qx3 qn3 qk3,.slice qy3 qm3 qd3,.bool qb4,.slice qx4 qn4 qk4,.slice qy4 qm4 qd4])),(Iz r3.v),(Iq (eqv (qt) qa qs qc)),(Iq ((mof (qt) (qp))-(eqv (qt) qa qs qc))),(Iq (aH ((mof (qt) (qp))-(eqv (qt) qa qs qc)) ((360:Int):Rat)))] [] (by decide+kernel) rfl rfl trivial ⟨?_,?_,?_,?_,?_,?_,?_,?_,?_,trivial⟩ ?_
 ·exact qL st 1 1 ag rfl rfl rfl rfl rfl
 ·intro a' w' hF' hb hd
  exact dv0 (aA (hF'.at 2 rfl) (um (p:=0) rfl)) rfl rfl rfl
 ·intro a' w' hF' hb hd
  have e6:=tE hd 0 rfl
  exact dv0 (aw e6 (fZ (vs:=[.bool qb1,.slice qx1 qn1 qk1,.slice qy1 qm1 qd1]) ((st.b 2 rfl rfl).below hb) rfl rfl)) rfl rfl rfl
 ·intro a' w' hF' hb hd
  have e5:=tE hd 0 rfl
  have e7:=tE hd 1 rfl
  exact dc0 (rk xT (ar e5 e7)) (pU _ _ (qt) (qp) k 2 _ (h2.below (aa st.bel hb)) (hr1.below (aa st.bel hb)) hl lqp (by omega) (by omega)) rfl rfl
 ·exact qL st 2 2 gN rfl rfl rfl rfl rfl
 ·exact qL st 1 1 ag rfl rfl rfl rfl rfl
 ·intro a' w' hF' hb hd
  have e9:=tE hd 0 rfl
  have e10:=tE hd 1 rfl
  exact dc0 (rk Aw (ar e9 e10)) (wI _ _ qp qa qs qc (qt) k _ (hT.below (aa st.bel hb)) (ho.below (aa st.bel hb)) (h2.below (aa st.bel hb)) lqp lqa lqs lqc hl (by omega)) rfl rfl
 ·intro a' w' hF' hb hd
  obtain⟨v8_0,e8,h8_1⟩:=tH hd 0 rfl
  obtain⟨v11_0,e11,h11_1⟩:=tH hd 1 rfl
  exact dc0 (rk k37 (ar e8 e11)) (dU _ _ _ _ (max (k+2+5) (2*k+2*2+2*2+2+60)) _ h8_1 h11_1 ((cE hl lqp).up _ (by omega)) ((l9 hl lqa lqs lqc).up _ (by omega)) (by omega)) rfl rfl
 ·intro a' w' hF' hb hd
  obtain⟨v12_0,e12,h12_1⟩:=tH hd 0 rfl
  exact dc0 (rk k55 (aB e12)) (fR _ _ ((k+2+5)+(2*k+2*2+2*2+2+60)+1) _ h12_1 (bl (cE hl lqp) (l9 hl lqa lqs lqc)) (by omega)) rfl rfl
 intro a w5 hF bb hall hne
 replace st:=st.to bb
 obtain⟨vv6,hF,st⟩:=aS hall hF st 8 rfl rfl Rq.cl
 clear hall hne bb
 obtain⟨r8,rfl⟩:=Rq.fo (st.f 0 rfl)
 refine so st hF 0 1 0 ag rfl rfl rfl rfl fun w9 a st hF=>?_
 refine nr ?_
 refine rs Tryz.results96 st hF 1 0 ag rfl rfl rfl ?_
 have bel:=st.bel
 exact⟨_,rfl,(st.f 0 rfl),bel⟩
theorem kJ (v1:Value) (qt:Rat) (k:Nat) (w:World) (hT:cG w) (h1:Rq w v1 qt) (hl:az qt k) (hk:k≤100):
 Calls Tryz.prog 57 #[v1] w (bg w (bi qt)):=by
 have st:=St.start w
 refine go1 (nt:=6) Tryz.func57 rfl rfl rfl fun a hF=>?_
 refine wq ?_
 obtain⟨r2,rfl⟩:=Rq.fo h1
 refine bx st hF 0 rfl rfl fun g1 w1 a st hF=>?_
 refine S.alloc st hF ag rfl rfl fun g2 w3 a st hF=>?_
 refine ns ?_
 refine E.drawn 3 aJ hF [3,4,5] [(fun w v=>Orb w v pyr pay ssz sch),(fun _ v=>v=r2.v),(fun w v=>Rq w v (bi (qt)))] [] (by decide+kernel) (by decide+kernel) rfl rfl rfl ⟨(fun _ _ _ h hb=>h.below hb),(Mb.eq _),(fun _ _ _ h hb=>h.below hb),trivial⟩ trivial ⟨?_,?_,?_,trivial⟩ ?_
 ·intro a' w' hF' hb hd
  exact dc0 (rk k97 eh) (mD _) rfl rfl
 ·exact qL st 1 1 ag rfl rfl rfl rfl rfl
 ·intro a' w' hF' hb hd
  obtain⟨v3_0,e3,h3_1⟩:=tH hd 0 rfl
  have e4:=tE hd 1 rfl
  exact dc0 (rk k96 (ar e3 e4)) (pc _ _ pyr pay ssz sch (qt) k _ (hT.below (aa st.bel hb)) h3_1 (h1.below (aa st.bel hb)) ma lP pq pB hl (by omega)) rfl rfl
 intro a w4 hF bb hall hne
 replace st:=st.to bb
 obtain⟨vv5,hF,st⟩:=aS hall hF st 2 rfl rfl Rq.cl
 clear hall hne bb
 obtain⟨r7,rfl⟩:=Rq.fo (st.f 0 rfl)
 refine so st hF 0 1 0 ag rfl rfl rfl rfl fun w8 a st hF=>?_
 refine nr ?_
 refine rs Tryz.results57 st hF 1 0 ag rfl rfl rfl ?_
 have bel:=st.bel
 exact⟨_,rfl,(st.f 0 rfl),bel⟩
theorem mi (v1:Value) (qt:Rat) (k:Nat) (w:World) (hT:cG w) (h1:Rq w v1 qt) (hl:az qt k) (hk:k≤100):
 Calls Tryz.prog 56 #[v1] w (bg w (aU qt)):=by
 have st:=St.start w
 refine go1 (nt:=6) Tryz.func56 rfl rfl rfl fun a hF=>?_
 refine wq ?_
 obtain⟨r2,rfl⟩:=Rq.fo h1
 refine bx st hF 0 rfl rfl fun g1 w1 a st hF=>?_
 refine S.alloc st hF ag rfl rfl fun g2 w3 a st hF=>?_
 refine ns ?_
 refine E.drawn 3 aJ hF [3,4,5] [(fun w v=>Orb w v pmo pam msz mch),(fun _ v=>v=r2.v),(fun w v=>Rq w v (aU (qt)))] [] (by decide+kernel) (by decide+kernel) rfl rfl rfl ⟨(fun _ _ _ h hb=>h.below hb),(Mb.eq _),(fun _ _ _ h hb=>h.below hb),trivial⟩ trivial ⟨?_,?_,?_,trivial⟩ ?_
 ·intro a' w' hF' hb hd
  exact dc0 (rk k95 eh) (lK _) rfl rfl
 ·exact qL st 1 1 ag rfl rfl rfl rfl rfl
 ·intro a' w' hF' hb hd
  obtain⟨v3_0,e3,h3_1⟩:=tH hd 0 rfl
  have e4:=tE hd 1 rfl
  exact dc0 (rk k96 (ar e3 e4)) (pc _ _ pmo pam msz mch (qt) k _ (hT.below (aa st.bel hb)) h3_1 (h1.below (aa st.bel hb)) lV lG pi pH hl (by omega)) rfl rfl
 intro a w4 hF bb hall hne
 replace st:=st.to bb
 obtain⟨vv5,hF,st⟩:=aS hall hF st 2 rfl rfl Rq.cl
 clear hall hne bb
 obtain⟨r7,rfl⟩:=Rq.fo (st.f 0 rfl)
 refine so st hF 0 1 0 ag rfl rfl rfl rfl fun w8 a st hF=>?_
 refine nr ?_
 refine rs Tryz.results56 st hF 1 0 ag rfl rfl rfl ?_
 have bel:=st.bel
 exact⟨_,rfl,(st.f 0 rfl),bel⟩
theorem qQ (v1:Value) (qt:Rat) (k:Nat) (w:World) (hT:cG w) (h1:Rq w v1 qt) (hl:az qt k) (hk:k≤100):
 Calls Tryz.prog 18 #[v1] w (bg w (bq qt)):=by
 have st:=St.start w
 refine go1 (nt:=9) Tryz.func18 rfl rfl rfl fun a hF=>?_
 refine wq ?_
 obtain⟨r2,rfl⟩:=Rq.fo h1
 refine bx st hF 0 rfl rfl fun g1 w1 a st hF=>?_
 refine S.alloc st hF ag rfl rfl fun g2 w3 a st hF=>?_
 refine ns ?_
 refine eD 6 aJ hF [3,4,5,6,7,8] [(Iz r2.v),(Iq (aU (qt))),(Iz r2.v),(Iq (bi (qt))),(Iq ((aU (qt))-(bi (qt)))),(Iq (aH ((aU (qt))-(bi (qt))) ((360:Int):Rat)))] [] (by decide+kernel) rfl rfl trivial ⟨?_,?_,?_,?_,?_,?_,trivial⟩ ?_
 ·exact qL st 1 1 ag rfl rfl rfl rfl rfl
 ·intro a' w' hF' hb hd
  have e3:=tE hd 0 rfl
  exact dc0 (rk k56 (aB e3)) (mi _ (qt) k _ (hT.below (aa st.bel hb)) (h1.below (aa st.bel hb)) hl (by omega)) rfl rfl
 ·exact qL st 1 1 ag rfl rfl rfl rfl rfl
 ·intro a' w' hF' hb hd
  have e5:=tE hd 0 rfl
  exact dc0 (rk k57 (aB e5)) (kJ _ (qt) k _ (hT.below (aa st.bel hb)) (h1.below (aa st.bel hb)) hl (by omega)) rfl rfl
 ·intro a' w' hF' hb hd
  obtain⟨v4_0,e4,h4_1⟩:=tH hd 0 rfl
  obtain⟨v6_0,e6,h6_1⟩:=tH hd 1 rfl
  exact dc0 (rk k37 (ar e4 e6)) (dU _ _ _ _ (3*k+100) _ h4_1 h6_1 ((bW hl).up _ (by omega)) ((ch hl).up _ (by omega)) (by omega)) rfl rfl
 ·intro a' w' hF' hb hd
  obtain⟨v7_0,e7,h7_1⟩:=tH hd 0 rfl
  exact dc0 (rk k55 (aB e7)) (fR _ _ ((3*k+100)+(3*k+100)+1) _ h7_1 (bl (bW hl) (ch hl)) (by omega)) rfl rfl
 intro a w4 hF bb hall hne
 replace st:=st.to bb
 obtain⟨vv5,hF,st⟩:=aS hall hF st 5 rfl rfl Rq.cl
 clear hall hne bb
 obtain⟨r7,rfl⟩:=Rq.fo (st.f 0 rfl)
 refine so st hF 0 1 0 ag rfl rfl rfl rfl fun w8 a st hF=>?_
 refine nr ?_
 refine rs Tryz.results18 st hF 1 0 ag rfl rfl rfl ?_
 have bel:=st.bel
 exact⟨_,rfl,(st.f 0 rfl),bel⟩
theorem eF (v1:Value) (qt:Rat) (k:Nat) (n:Int) (w:World) (h1:Rq w v1 qt) (hl:az qt k) (hk:k≤1000) (hn:0<n) (hn2:n≤1000) (h0:0≤qt) (h3:qt<((360:Int):Rat)):
 Calls Tryz.prog 73 #[v1,.int .i64 n] w (aX w (.int .i64 (prt qt n))):=by
 have st:=St.start w
 refine go2 (nt:=16) Tryz.func73 rfl rfl rfl fun a hF=>?_
 refine wq ?_
 obtain⟨r2,rfl⟩:=Rq.fo h1
 refine bx st hF 0 rfl rfl fun g2 w1 a st hF=>?_
 refine oC hF rfl fun a hF=>?_
 refine ns ?_
 refine eD 10 aJ hF [8,9,10,11,12,7,13,14,5,6] [(Iz r2.v),(Iz (.int .i64 n)),(Iq (((n:Int):Rat)/((360:Int):Rat))),(Iq ((qt)*(((n:Int):Rat)/((360:Int):Rat)))),(Iz (.tuple #[.int .i64 (ev (Rat.floor ((qt)*(((n:Int):Rat)/((360:Int):Rat))))),.bool (fa (Rat.floor ((qt)*(((n:Int):Rat)/((360:Int):Rat)))))])),(Iz (.tuple #[.int .i64 (ev (Rat.floor ((qt)*(((n:Int):Rat)/((360:Int):Rat))))),.bool (fa (Rat.floor ((qt)*(((n:Int):Rat)/((360:Int):Rat)))))])),(Iz (.int .i64 (ev (Rat.floor ((qt)*(((n:Int):Rat)/((360:Int):Rat))))))),(Iz (.bool (fa (Rat.floor ((qt)*(((n:Int):Rat)/((360:Int):Rat))))))),(Iz (.int .i64 (ev (Rat.floor ((qt)*(((n:Int):Rat)/((360:Int):Rat))))))),(Iz (.bool (fa (Rat.floor ((qt)*(((n:Int):Rat)/((360:Int):Rat)))))))] [] (by decide+kernel) rfl rfl trivial ⟨?_,?_,?_,?_,?_,?_,?_,?_,?_,?_,trivial⟩ ?_
 ·exact qL st 1 0 ag rfl rfl rfl rfl rfl
 ·exact qM 3 rfl rfl rfl
 ·intro a' w' hF' hb hd
  have e9:=tE hd 0 rfl
  exact dc0 (rk k22 (ar e9 ao)) (bZ (n) (360) _ (by omega) (by omega) (by decide) (by decide)) rfl rfl
 ·intro a' w' hF' hb hd
  have e8:=tE hd 0 rfl
  obtain⟨v10_0,e10,h10_1⟩:=tH hd 1 rfl
  exact dc0 (rk gL (ar e8 e10)) (di _ _ (qt) _ (max k 2) _ (h1.below (aa st.bel hb)) h10_1 (hl.up _ (by omega)) ((az.up (bf (aD (by omega) (by omega)) (aD (by decide) (by decide))) 2 (by decide)).up _ (by omega)) (by omega)) rfl rfl
 ·intro a' w' hF' hb hd
  obtain⟨v11_0,e11,h11_1⟩:=tH hd 0 rfl
  exact bD (rk k64 (aB e11)) (mj _ _ (k+2) _ h11_1 (aV hl (az.up (bf (aD (by omega) (by omega)) (aD (by decide) (by decide))) 2 (by decide))) (by omega)) (fun _=>rfl) rfl rfl
 ·intro a' w' hF' hb hd
  have e12:=tE hd 0 rfl
  exact dv0 (aY e12) rfl rfl rfl
 ·intro a' w' hF' hb hd
  have e7:=tE hd 0 rfl
  exact dv0 (a7 (v:= .int .i64 (ev (Rat.floor ((qt)*(((n:Int):Rat)/((360:Int):Rat)))))) e7 rfl) rfl rfl rfl
 ·intro a' w' hF' hb hd
  have e7:=tE hd 0 rfl
  exact dv0 (a7 (v:= .bool (fa (Rat.floor ((qt)*(((n:Int):Rat)/((360:Int):Rat)))))) e7 rfl) rfl rfl rfl
 ·intro a' w' hF' hb hd
  have e13:=tE hd 0 rfl
  exact dv0 (bz e13) rfl rfl rfl
 ·intro a' w' hF' hb hd
  have e14:=tE hd 0 rfl
  exact dv0 (bz e14) rfl rfl rfl
 intro a w3 hF bb hall hne
 replace st:=st.to bb
 replace hF:=aE hall hF 8 rfl rfl
 clear hall hne bb
 refine nq ?_
 refine oM hF 0 rfl rfl fun a hF=>?_
 refine oE hF 0 rfl rfl fun a hF=>?_
 refine nr ?_
 have bel:=st.bel
 refine rt Tryz.results73 hF 0 rfl ?_
 exact⟨bB (yL hn hn2 h0 h3),bel⟩
theorem sT (v1:Value) (qt:Rat) (k:Nat) (w:World) (hT:cG w) (h1:Rq w v1 qt) (hl:az qt k) (hk:k≤100):
 Calls Tryz.prog 30 #[v1] w (aX w (.int .i64 (prt (bi qt) 12))):=by
 have st:=St.start w
 refine go1 (nt:=6) Tryz.func30 rfl rfl rfl fun a hF=>?_
 refine wq ?_
 obtain⟨r2,rfl⟩:=Rq.fo h1
 refine bx st hF 0 rfl rfl fun g1 w1 a st hF=>?_
 refine oC hF rfl fun a hF=>?_
 refine nq ?_
 refine oL hF st 1 0 ag rfl rfl rfl rfl fun a hF=>?_
 refine ca st hF (rk k57 (aB (hF.at 0 rfl))) (kJ _ (qt) k _ (hT.below st.bel) (h1.below st.bel) hl (by omega)) (fun _ _ h=>h) Rq.cl rfl fun vv4 w3 a st hF=>?_
 obtain⟨r6,rfl⟩:=Rq.fo (st.f 0 rfl)
 refine cX st hF (rk k73 (ar (hF.at 0 rfl) ao)) (eF _ _ (3*k+100) 12 _ (st.f 0 rfl) (ch hl) (by omega) (by omega) (by omega) (gI _) (gb _)) rfl fun w7 a st hF=>?_
 have hpt96163:=cj (x:=bi (qt)) (n:=12) (by omega) (gI _) (gb _)
 refine oE hF 0 rfl rfl fun a hF=>?_
 refine nr ?_
 have bel:=st.bel
 refine rt Tryz.results30 hF 0 rfl ?_
 exact⟨rfl,bel⟩
theorem rm (v1:Value) (qt:Rat) (k:Nat) (w:World) (hT:cG w) (h1:Rq w v1 qt) (hl:az qt k) (hk:k≤100):
 Calls Tryz.prog 42 #[v1] w (aX w (.int .i64 (prt (bq qt) 30+1))):=by
 have st:=St.start w
 refine go1 (nt:=7) Tryz.func42 rfl rfl rfl fun a hF=>?_
 refine wq ?_
 obtain⟨r2,rfl⟩:=Rq.fo h1
 refine bx st hF 0 rfl rfl fun g1 w1 a st hF=>?_
 refine oC hF rfl fun a hF=>?_
 refine nq ?_
 refine oL hF st 1 0 ag rfl rfl rfl rfl fun a hF=>?_
 refine ca st hF (rk k18 (aB (hF.at 0 rfl))) (qQ _ (qt) k _ (hT.below st.bel) (h1.below st.bel) hl (by omega)) (fun _ _ h=>h) Rq.cl rfl fun vv4 w3 a st hF=>?_
 obtain⟨r6,rfl⟩:=Rq.fo (st.f 0 rfl)
 refine cX st hF (rk k73 (ar (hF.at 0 rfl) ao)) (eF _ _ (6*k+210) 30 _ (st.f 0 rfl) (qz hl) (by omega) (by omega) (by omega) (dX _) (dI _)) rfl fun w7 a st hF=>?_
 have hpt16717:=cj (x:=bq (qt)) (n:=30) (by omega) (dX _) (dI _)
 refine oV hF (av (hF.at 0 rfl) ao ab (bh (by omega) (by omega))) rfl fun a hF=>?_
 refine oE hF 0 rfl rfl fun a hF=>?_
 refine nr ?_
 have bel:=st.bel
 refine rt Tryz.results42 hF 0 rfl ?_
 exact⟨rfl,bel⟩
theorem jI (v1:Value) (qt:Rat) (k:Nat) (w:World) (hT:cG w) (h1:Rq w v1 qt) (hl:az qt k) (hk:k≤100):
 Calls Tryz.prog 40 #[v1] w (aX w (.agg #[.int .i64 (prt (bi qt) 12),.int .i64 (prt (bq qt) 30+1),.int .i64 (prt (aU qt) 27+1),.int .i64 (prt (gZ qt) 27+1),.int .i64 (prt (bq qt) 60+1)])):=by
 have st:=St.start w
 refine go1 (nt:=32) Tryz.func40 rfl rfl rfl fun a hF=>?_
 refine wq ?_
 obtain⟨r2,rfl⟩:=Rq.fo h1
 refine bx st hF 0 rfl rfl fun g1 w1 a st hF=>?_
 refine S.alloc st hF lY rfl rfl fun g2 w3 a st hF=>?_
 refine ns ?_
 refine eD 6 aJ hF [6,7,8,9,3,4] [(Iz r2.v),(Iq (bi (qt))),(Iz r2.v),(Iq (aU (qt))),(Ip w3),(Ip w3)] [4,5] (by decide+kernel) rfl rfl ⟨fun _ _ ⟨g,e,_,o⟩=>⟨g,e,o.lt⟩,⟨fun _ _ ⟨g,e,_,o⟩=>⟨g,e,o.lt⟩,trivial⟩⟩ ⟨?_,?_,?_,?_,?_,?_,trivial⟩ ?_
 ·exact qL st 1 1 ag rfl rfl rfl rfl rfl
 ·intro a' w' hF' hb hd
  have e6:=tE hd 0 rfl
  exact dc0 (rk k57 (aB e6)) (kJ _ (qt) k _ (hT.below (aa st.bel hb)) (h1.below (aa st.bel hb)) hl (by omega)) rfl rfl
 ·exact qL st 1 1 ag rfl rfl rfl rfl rfl
 ·intro a' w' hF' hb hd
  have e8:=tE hd 0 rfl
  exact dc0 (rk k56 (aB e8)) (mi _ (qt) k _ (hT.below (aa st.bel hb)) (h1.below (aa st.bel hb)) hl (by omega)) rfl rfl
 ·intro a' w' hF' hb hd
  exact da0 ag rfl hb.size rfl
 ·intro a' w' hF' hb hd
  exact da0 ag rfl hb.size rfl
 intro a w4 hF bb hall hne
 have s0:=st
 replace st:=st.to bb
 obtain⟨vv5,hF,st⟩:=aS hall hF st 1 rfl rfl Rq.cl
 obtain⟨vv7,hF,st⟩:=aS hall hF st 3 rfl rfl Rq.cl
 obtain⟨_,e3,g3,rfl,ge3,o3⟩:=sS hall 4 3 rfl rfl
 replace st:=st.push o3.blk (Nat.le_trans s0.bel.size ge3) (s0.ne ge3)
 clear o3
 obtain⟨_,e4,g4,rfl,ge4,o4⟩:=sS hall 5 4 rfl rfl
 replace st:=st.push o4.blk (Nat.le_trans s0.bel.size ge4) (gE (fun(e:g3=g4)=>hne 4 5 3 4 rfl rfl (by decide) rfl rfl (by rw[e3,e4,e])) (s0.ne ge4))
 clear o4
 clear hall hne bb s0
 obtain⟨r9,rfl⟩:=Rq.fo (st.f 1 rfl)
 obtain⟨r10,rfl⟩:=Rq.fo (st.f 0 rfl)
 replace hF:=hF.add e3
 clear e3
 replace hF:=hF.add e4
 clear e4
 refine so st hF 1 1 3 ag rfl rfl rfl rfl fun w11 a st hF=>?_
 refine so st hF 0 0 2 ag rfl rfl rfl rfl fun w12 a st hF=>?_
 refine nq ?_
 refine oL hF st 0 0 ag rfl rfl rfl rfl fun a hF=>?_
 refine oL hF st 2 1 ag rfl rfl rfl rfl fun a hF=>?_
 refine ca st hF (rk k37 (ar (hF.at 1 rfl) (hF.at 0 rfl))) (dU _ _ _ _ (3*k+100) _ (st.f 0 rfl) (st.f 1 rfl) ((bW hl).up _ (by omega)) ((ch hl).up _ (by omega)) (by omega)) (fun _ _ h=>h) Rq.cl rfl fun vv14 w13 a st hF=>?_
 obtain⟨r16,rfl⟩:=Rq.fo (st.f 0 rfl)
 refine ca st hF (rk k55 (aB (hF.at 0 rfl))) (fR _ _ ((3*k+100)+(3*k+100)+1) _ (st.f 0 rfl) (bl (bW hl) (ch hl)) (by omega)) (fun _ _ h=>h) Rq.cl rfl fun vv18 w17 a st hF=>?_
 obtain⟨r20,rfl⟩:=Rq.fo (st.f 0 rfl)
 refine S.new st hF 0 rfl ag rfl rfl rfl rfl rfl fun g5 w21 a st hF=>?_
 refine ns ?_
 refine eD 18 aJ hF [14,15,16,17,18,19,20,21,22,23,24,25,26,27,28,29,30,31] [(Iz r9.v),(Iz (.int .i64 (prt (bi (qt)) 12))),(Iz r20.v),(Iz (.int .i64 (prt (aH ((aU (qt))-(bi (qt))) ((360:Int):Rat)) 30))),(Iz (.int .i64 ((prt (aH ((aU (qt))-(bi (qt))) ((360:Int):Rat)) 30)+1))),(Iz r10.v),(Iz (.int .i64 (prt (aU (qt)) 27))),(Iz (.int .i64 ((prt (aU (qt)) 27)+1))),(Iz r10.v),(Iz r9.v),(Iq ((aU (qt))+(bi (qt)))),(Iq (aH ((aU (qt))+(bi (qt))) ((360:Int):Rat))),(Iz (.int .i64 (prt (aH ((aU (qt))+(bi (qt))) ((360:Int):Rat)) 27))),(Iz (.int .i64 ((prt (aH ((aU (qt))+(bi (qt))) ((360:Int):Rat)) 27)+1))),(Iz r20.v),(Iz (.int .i64 (prt (aH ((aU (qt))-(bi (qt))) ((360:Int):Rat)) 60))),(Iz (.int .i64 ((prt (aH ((aU (qt))-(bi (qt))) ((360:Int):Rat)) 60)+1))),(Iz (.agg #[.int .i64 (prt (bi (qt)) 12),.int .i64 ((prt (aH ((aU (qt))-(bi (qt))) ((360:Int):Rat)) 30)+1),.int .i64 ((prt (aU (qt)) 27)+1),.int .i64 ((prt (aH ((aU (qt))+(bi (qt))) ((360:Int):Rat)) 27)+1),.int .i64 ((prt (aH ((aU (qt))-(bi (qt))) ((360:Int):Rat)) 60)+1)]))] [] (by decide+kernel) rfl rfl trivial ⟨?_,?_,?_,?_,?_,?_,?_,?_,?_,?_,?_,?_,?_,?_,?_,?_,?_,?_,trivial⟩ ?_
 ·exact qL st 6 2 ag rfl rfl rfl rfl rfl
 ·intro a' w' hF' hb hd
  have e14:=tE hd 0 rfl
  exact bD (rk k73 (ar e14 ao)) (eF _ _ (3*k+100) 12 _ ((st.f 3 rfl).below hb) (ch hl) (by omega) (by omega) (by omega) (gI _) (gb _)) (fun _=>rfl) rfl rfl
 ·exact qL st 0 0 ag rfl rfl rfl rfl rfl
 ·intro a' w' hF' hb hd
  have e16:=tE hd 0 rfl
  exact bD (rk k73 (ar e16 ao)) (eF _ _ (((3*k+100)+(3*k+100)+1)+4) 30 _ ((st.f 0 rfl).below hb) (dJ (bl (bW hl) (ch hl))) (by omega) (by omega) (by omega) (bT aM) (bH aM)) (fun _=>rfl) rfl rfl
 ·intro a' w' hF' hb hd
  have e17:=tE hd 0 rfl
  have hpt3465:=cj (x:=aH ((aU (qt))-(bi (qt))) ((360:Int):Rat)) (n:=30) (by omega) (bT aM) (bH aM)
  exact dv0 (av e17 ao ab (bh (by omega) (by omega))) rfl rfl rfl
 ·exact qL st 5 1 ag rfl rfl rfl rfl rfl
 ·intro a' w' hF' hb hd
  have e19:=tE hd 0 rfl
  exact bD (rk k73 (ar e19 ao)) (eF _ _ (3*k+100) 27 _ ((st.f 2 rfl).below hb) (bW hl) (by omega) (by omega) (by omega) (ga _) (fz _)) (fun _=>rfl) rfl rfl
 ·intro a' w' hF' hb hd
  have e20:=tE hd 0 rfl
  have hpt94321:=cj (x:=aU (qt)) (n:=27) (by omega) (ga _) (fz _)
  exact dv0 (av e20 ao ab (bh (by omega) (by omega))) rfl rfl rfl
 ·exact qL st 5 1 ag rfl rfl rfl rfl rfl
 ·exact qL st 6 2 ag rfl rfl rfl rfl rfl
 ·intro a' w' hF' hb hd
  have e22:=tE hd 0 rfl
  have e23:=tE hd 1 rfl
  exact dc0 (rk k75 (ar e22 e23)) (fj _ _ _ _ (3*k+100) _ ((st.f 2 rfl).below hb) ((st.f 3 rfl).below hb) ((bW hl).up _ (by omega)) ((ch hl).up _ (by omega)) (by omega)) rfl rfl
 ·intro a' w' hF' hb hd
  obtain⟨v24_0,e24,h24_1⟩:=tH hd 0 rfl
  exact dc0 (rk k55 (aB e24)) (fR _ _ ((3*k+100)+(3*k+100)+1) _ h24_1 (dw (bW hl) (ch hl)) (by omega)) rfl rfl
 ·intro a' w' hF' hb hd
  obtain⟨v25_0,e25,h25_1⟩:=tH hd 0 rfl
  exact bD (rk k73 (ar e25 ao)) (eF _ _ (((3*k+100)+(3*k+100)+1)+4) 27 _ h25_1 (dJ (dw (bW hl) (ch hl))) (by omega) (by omega) (by omega) (bT aM) (bH aM)) (fun _=>rfl) rfl rfl
 ·intro a' w' hF' hb hd
  have e26:=tE hd 0 rfl
  have hpt92850:=cj (x:=aH ((aU (qt))+(bi (qt))) ((360:Int):Rat)) (n:=27) (by omega) (bT aM) (bH aM)
  exact dv0 (av e26 ao ab (bh (by omega) (by omega))) rfl rfl rfl
 ·exact qL st 0 0 ag rfl rfl rfl rfl rfl
 ·intro a' w' hF' hb hd
  have e28:=tE hd 0 rfl
  exact bD (rk k73 (ar e28 ao)) (eF _ _ (((3*k+100)+(3*k+100)+1)+4) 60 _ ((st.f 0 rfl).below hb) (dJ (bl (bW hl) (ch hl))) (by omega) (by omega) (by omega) (bT aM) (bH aM)) (fun _=>rfl) rfl rfl
 ·intro a' w' hF' hb hd
  have e29:=tE hd 0 rfl
  have hpt50279:=cj (x:=aH ((aU (qt))-(bi (qt))) ((360:Int):Rat)) (n:=60) (by omega) (bT aM) (bH aM)
  exact dv0 (av e29 ao ab (bh (by omega) (by omega))) rfl rfl rfl
 ·intro a' w' hF' hb hd
  have e15:=tE hd 0 rfl
  have hpt96163:=cj (x:=bi (qt)) (n:=12) (by omega) (gI _) (gb _)
  have e18:=tE hd 1 rfl
  have e21:=tE hd 2 rfl
  have e27:=tE hd 3 rfl
  have e30:=tE hd 4 rfl
  exact dv0 (aW (rg e15 e18 e21 e27 e30) (mG _ _ _ _ _ _)) rfl rfl rfl
 intro a w22 hF bb hall hne
 replace st:=st.to bb
 replace hF:=aE hall hF 17 rfl rfl
 clear hall hne bb
 refine S.stoI st hF 3 rfl (hF.at 10 rfl) (hF.at 0 rfl) lY rfl rfl rfl fun w23 a st hF=>?_
 refine nr ?_
 refine rs Tryz.results40 st hF 10 3 lY rfl rfl rfl ?_
 have bel:=st.bel
 exact⟨rfl,bel⟩
end Go.Proofs.YtplngpfpcheofaaGreatDoor
