import Derived.Test.YtgdpkknapcgcbaaGreatDoorKC25
namespace Go.Proofs.YtgdpkknapcgcbaaGreatDoor
open Go.RowKit
set_option maxRecDepth 100000
set_option linter.unusedVariables false
set_option maxHeartbeats 8000000
theorem NB {x:Rat} {n:Int} (hn:0<n) (hn2:n<=1000) (h0:0<=x) (h1:x<((360:Int):Rat)):jb (Rat.floor (x*(((n:Int):Rat)/((360:Int):Rat))))=prt x n:=by
 have:=kg hn h0 h1
 exact mW (show _<=prt x n by omega) (show prt x n<=_ by omega)
theorem xy (w:World):
 CP 155 #[] w (B4 w pyr pay ssz sch):=by
 refine gs0 (nt:=6) Tryz.func155 rfl rfl fun a st hF=>wq<|S.alloc st hF mI rfl rfl fun g0 w1 a st hF=>nq<|S.ck st hF (rgc zO fR) (nQ) Rl.cl rfl fun vv3 w2 a st hF=>?_
 obtain⟨r5,rfl⟩:=Rq.fo (st.f 0 rfl).1
 refine S.ck st hF (rgc O3 fR) (nV) Rl.cl rfl fun vv7 w6 a st hF=>?_
 obtain⟨r9,rfl⟩:=Rq.fo (st.f 0 rfl).1
 refine S.ck st hF (rgc k36 (aL ao ao)) en Rl.cl rfl fun vv11 w10 a st hF=>?_
 obtain⟨r13,rfl⟩:=Rq.fo (st.f 0 rfl).1
 refine S.ck st hF (rgc k36 (aL ao ao)) en Rl.cl rfl fun vv15 w14 a st hF=>?_
 obtain⟨r17,rfl⟩:=Rq.fo (st.f 0 rfl).1
 refine oV hF (bn (rM (hF.at 3 rfl) hF.q hF.p hF.o) (sV _ _ _ _ _ _ _ _ _ _ _ _ _ _ _ _ _ _ _ _ _ _ _ _ _ _ _ _ _)) rfl fun a hF=>so st hF 0 5 0 mI rfl rfl rfl rfl fun w18 a st hF=>nr<|rs Tryz.results155 st hF 5 0 mI rfl rfl rfl ?_
 exact⟨_,rfl,⟨_,_,_,_,_,_,_,_,_,_,_,_,_,_,_,_,_,_,_,_,_,_,_,_,_,_,_,_,rfl,(st.f 3 rfl).1,(st.f 2 rfl).1,(st.f 1 rfl).1,(st.f 0 rfl).1⟩,st.bel⟩
theorem vT (w:World):
 CP 210 #[] w (B4 w pmo pam msz mch):=by
 refine gs0 (nt:=6) Tryz.func210 rfl rfl fun a st hF=>wq<|S.alloc st hF mI rfl rfl fun g0 w1 a st hF=>nq<|S.ck st hF (rgc R0 fR) (Jn) Rl.cl rfl fun vv3 w2 a st hF=>?_
 obtain⟨r5,rfl⟩:=Rq.fo (st.f 0 rfl).1
 refine S.ck st hF (rgc Sk fR) (uT) Rl.cl rfl fun vv7 w6 a st hF=>?_
 obtain⟨r9,rfl⟩:=Rq.fo (st.f 0 rfl).1
 refine S.ck st hF (rgc k36 (aL ao ao)) en Rl.cl rfl fun vv11 w10 a st hF=>?_
 obtain⟨r13,rfl⟩:=Rq.fo (st.f 0 rfl).1
 refine S.ck st hF (rgc k36 (aL ao ao)) en Rl.cl rfl fun vv15 w14 a st hF=>?_
 obtain⟨r17,rfl⟩:=Rq.fo (st.f 0 rfl).1
 refine oV hF (bn (rM (hF.at 3 rfl) hF.q hF.p hF.o) (sV _ _ _ _ _ _ _ _ _ _ _ _ _ _ _ _ _ _ _ _ _ _ _ _ _ _ _ _ _)) rfl fun a hF=>so st hF 0 5 0 mI rfl rfl rfl rfl fun w18 a st hF=>nr<|rs Tryz.results210 st hF 5 0 mI rfl rfl rfl ?_
 exact⟨_,rfl,⟨_,_,_,_,_,_,_,_,_,_,_,_,_,_,_,_,_,_,_,_,_,_,_,_,_,_,_,_,rfl,(st.f 3 rfl).1,(st.f 2 rfl).1,(st.f 1 rfl).1,(st.f 0 rfl).1⟩,st.bel⟩
theorem LM (v1 v2:Value) (qp qa qs qc qt:Rat) (k:Nat) (w:World) (hT:bE w) (ho:Orb w v1 qp qa qs qc) (h2:Rq w v2 qt) (lqp:av qp 2) (lqa:av qa 2) (lqs:av qs 2) (lqc:av qc 2) (hl:av qt k) (hk:k<=100):
 CQ 214 #[v1,v2] w (eqv qt qa qs qc):=by
 obtain⟨qb1,qx1,qn1,qk1,qy1,qm1,qd1,qb2,qx2,qn2,qk2,qy2,qm2,qd2,qb3,qx3,qn3,qk3,qy3,qm3,qd3,qb4,qx4,qn4,qk4,qy4,qm4,qd4,rfl,hr1,hr2,hr3,hr4⟩:=ho
 have ho:Orb w (.agg #[.bool qb1,.slice qx1 qn1 qk1,.slice qy1 qm1 qd1,.bool qb2,.slice qx2 qn2 qk2,.slice qy2 qm2 qd2,.bool qb3,.slice qx3 qn3 qk3,.slice qy3 qm3 qd3,.bool qb4,.slice qx4 qn4 qk4,.slice qy4 qm4 qd4]) qp qa qs qc:=⟨_,_,_,_,_,_,_,_,_,_,_,_,_,_,_,_,_,_,_,_,_,_,_,_,_,_,_,_,rfl,hr1,hr2,hr3,hr4⟩
 refine gs2 (nt:=27) Tryz.func214 rfl rfl rfl fun a st hF=>wq<|bx st hF 0 rfl rfl fun g2 w1 a st hF=>?_
 obtain⟨r3,rfl⟩:=Rq.fo h2
 refine bx st hF 2 rfl rfl fun g3 w2 a st hF=>S.alloc st hF ab rfl rfl fun g4 w4 a st hF=>nq<|oL hF st 1 1 ab rfl rfl rfl rfl fun a hF=>oV hF (az (hF.at 3 rfl) (JG (p:=3) rfl)) rfl fun a hF=>oV hF (ar hF.o (fM (vs:=[.bool qb2,.slice qx2 qn2 qk2,.slice qy2 qm2 qd2]) (st.b 2 rfl rfl) rfl rfl)) rfl fun a hF=>S.ck st hF (rgc Ja (aL hF.q hF.o)) (DN ⟨(h2.below st.bel),hl⟩ ⟨(hr2.below st.bel),lqa⟩) Rl.cl rfl fun vv6 w5 a st hF=>?_
 obtain⟨r8,rfl⟩:=Rq.fo (st.f 0 rfl).1
 refine S.ck st hF (rgc vJ (aG hF.o)) (qOf (hT.below st.bel) (st.f 0 rfl)) Rl.cl rfl fun vv10 w9 a st hF=>?_
 obtain⟨r12,rfl⟩:=Rq.fo (st.f 0 rfl).1
 refine S.new st hF 0 rfl ab rfl rfl rfl rfl rfl fun g5 w13 a st hF=>ns<|gz1 9 aM st hF ab [12,13,14,15,16,17,18,19,6] [_,_,_,_,_,_,_,_,_] (by decide+kernel) rfl rfl rfl ⟨rb st ab 0 0 rfl,ck st G3 rfl fun _ s=>JR (s.f 0 rfl),rfd 8 (fun _=>Hq (p:=9) rfl) rfl,rld rfl fun _ hb=>(fM (vs:=[.bool qb4,.slice qx4 qn4 qk4,.slice qy4 qm4 qd4]) ((st.b 3 rfl rfl).below hb) rfl rfl),ck st dB rfl fun _ s _ x13=>dE x13 ⟨(hr4.below s.bel),lqc⟩,rfd 8 (fun _=>xY (p:=6) rfl) rfl,rld rfl fun _ hb=>(fM (vs:=[.bool qb3,.slice qx3 qn3 qk3,.slice qy3 qm3 qd3]) ((st.b 3 rfl rfl).below hb) rfl rfl),ck st dB rfl fun _ s _ x16=>dE x16 ⟨(hr3.below s.bel),lqs⟩,ra ab rfl rfl,trivial⟩ fun r17 g6 w18 a st hF=>ns<|gz2 7 aM st hF ab 2 8 [20,21,22,23,24,25,26] [_,_,_,_,_,_,_] (by decide+kernel) rfl rfl rfl ⟨rb st ab 2 1 rfl,rfd 10 (fun _=>xY (p:=6) rfl) rfl,rld rfl fun _ hb=>(fM (vs:=[.bool qb3,.slice qx3 qn3 qk3,.slice qy3 qm3 qd3]) ((st.b 4 rfl rfl).below hb) rfl rfl),rb st ab 0 0 rfl,ck st k35 rfl fun _ s=>gR ⟨(hr3.below s.bel),lqs⟩ (s.f 0 rfl),ck st dB rfl fun _ s _ x24=>dE (s.f 1 rfl) x24,ck st CR rfl fun _ s _ x25=>Jp (hT.below s.bel) x25,trivial⟩ fun r22 w23 a st hF=>?_
 refine nr<|rs Tryz.results214 st hF 9 2 ab rfl rfl rfl ?_
 exact⟨_,rfl,(st.f 0 rfl).1,st.bel⟩
theorem sU (v1:Value) (qt:Rat) (k:Nat) (w:World) (h1:Rq w v1 qt) (hl:av qt k) (hk:k<=1000):
 CQ 153 #[v1] w (rmod qt ((360:Int):Rat)):=by
 refine gs1 (nt:=6) Tryz.func153 rfl rfl rfl fun a st hF=>wq ?_
 obtain⟨r2,rfl⟩:=Rq.fo h1
 refine bx st hF 0 rfl rfl fun g1 w1 a st hF=>S.alloc st hF ab rfl rfl fun g2 w3 a st hF=>ns<|gz2 3 aM st hF ab 0 0 [3,4,5] [_,_,_] (by decide+kernel) rfl rfl rfl ⟨rb st ab 1 1 rfl,ck st k40 rfl fun _ s=>dM,ck st DV rfl fun _ s _ x4=>Kn ⟨(h1.below s.bel),hl⟩ x4,trivial⟩ fun r7 w8 a st hF=>nr<|rs Tryz.results153 st hF 1 0 ab rfl rfl rfl ?_
 exact⟨_,rfl,(st.f 0 rfl).1,st.bel⟩
theorem B9 (v1 v2:Value) (qp qa qs qc qt:Rat) (k:Nat) (w:World) (hT:bE w) (ho:Orb w v1 qp qa qs qc) (h2:Rq w v2 qt) (lqp:av qp 2) (lqa:av qa 2) (lqs:av qs 2) (lqc:av qc 2) (hl:av qt k) (hk:k<=100):
 CQ 156 #[v1,v2] w (atv qt qp qa qs qc):=by
 obtain⟨qb1,qx1,qn1,qk1,qy1,qm1,qd1,qb2,qx2,qn2,qk2,qy2,qm2,qd2,qb3,qx3,qn3,qk3,qy3,qm3,qd3,qb4,qx4,qn4,qk4,qy4,qm4,qd4,rfl,hr1,hr2,hr3,hr4⟩:=ho
 have ho:Orb w (.agg #[.bool qb1,.slice qx1 qn1 qk1,.slice qy1 qm1 qd1,.bool qb2,.slice qx2 qn2 qk2,.slice qy2 qm2 qd2,.bool qb3,.slice qx3 qn3 qk3,.slice qy3 qm3 qd3,.bool qb4,.slice qx4 qn4 qk4,.slice qy4 qm4 qd4]) qp qa qs qc:=⟨_,_,_,_,_,_,_,_,_,_,_,_,_,_,_,_,_,_,_,_,_,_,_,_,_,_,_,_,rfl,hr1,hr2,hr3,hr4⟩
 refine gs2 (nt:=14) Tryz.func156 rfl rfl rfl fun a st hF=>wq<|bx st hF 0 rfl rfl fun g2 w1 a st hF=>?_
 obtain⟨r3,rfl⟩:=Rq.fo h2
 refine bx st hF 2 rfl rfl fun g3 w2 a st hF=>S.alloc st hF ab rfl rfl fun g4 w4 a st hF=>ns<|gz2 9 aM st hF ab 0 0 [5,6,7,8,9,10,11,12,13] [_,_,_,_,_,_,_,_,_] (by decide+kernel) rfl rfl rfl ⟨rb st ab 1 1 rfl,rfd 2 (fun _=>Hz (p:=0) rfl) rfl,rld rfl fun _ hb=>(fM (vs:=[.bool qb1,.slice qx1 qn1 qk1,.slice qy1 qm1 qd1]) ((st.b 2 rfl rfl).below hb) rfl rfl),ck st Ja rfl fun _ s=>DN ⟨(h2.below s.bel),hl⟩ ⟨(hr1.below s.bel),lqp⟩,rb st mI 2 2 rfl,rb st ab 1 1 rfl,ck st SI rfl fun _ s=>bf (LM _ _ qp qa qs qc (qt) k _ (hT.below s.bel) (ho.below s.bel) (h2.below s.bel) lqp lqa lqs lqc hl (by omega)) (B5 hl lqa lqs lqc),ck st k35 rfl fun _ s _ x8 _ x11=>gR x8 x11,ck st N9 rfl fun _ s _ x12=>bf (sU _ ((mof (qt) (qp))-(eqv (qt) qa qs qc)) ((k+2+5)+(2*k+2*2+2*2+2+60)+1) _ x12.1 x12.2 (by omega)) (gz x12.2),trivial⟩ fun r8 w9 a st hF=>nr ?_
 refine rs Tryz.results156 st hF 1 0 ab rfl rfl rfl ?_
 exact⟨_,rfl,(st.f 0 rfl).1,st.bel⟩
theorem tU (v1:Value) (qt:Rat) (k:Nat) (w:World) (hT:bE w) (h1:Rq w v1 qt) (hl:av qt k) (hk:k<=100):
 CQ 85 #[v1] w (eg qt):=by
 refine gs1 (nt:=6) Tryz.func85 rfl rfl rfl fun a st hF=>wq ?_
 obtain⟨r2,rfl⟩:=Rq.fo h1
 refine bx st hF 0 rfl rfl fun g1 w1 a st hF=>S.alloc st hF ab rfl rfl fun g2 w3 a st hF=>ns<|gz2 3 aM st hF ab 0 0 [3,4,5] [.of (fun w v=>Orb w v pyr pay ssz sch) (fun _ _ _ h hb=>h.below hb),_,_] (by decide+kernel) rfl rfl rfl ⟨ck st SL rfl fun _ s=>gi (xy _),rb st ab 1 1 rfl,ck st OB rfl fun _ s _ x3=>bf (B9 _ _ pyr pay ssz sch (qt) k _ (hT.below s.bel) x3 (h1.below s.bel) ol kF Ca Bd hl (by omega)) (jc hl),trivial⟩ fun r7 w8 a st hF=>nr<|rs Tryz.results85 st hF 1 0 ab rfl rfl rfl ?_
 exact⟨_,rfl,(st.f 0 rfl).1,st.bel⟩
theorem EC (v1:Value) (qt:Rat) (k:Nat) (w:World) (hT:bE w) (h1:Rq w v1 qt) (hl:av qt k) (hk:k<=100):
 CQ 152 #[v1] w (pN qt):=by
 refine gs1 (nt:=6) Tryz.func152 rfl rfl rfl fun a st hF=>wq ?_
 obtain⟨r2,rfl⟩:=Rq.fo h1
 refine bx st hF 0 rfl rfl fun g1 w1 a st hF=>S.alloc st hF ab rfl rfl fun g2 w3 a st hF=>ns<|gz2 3 aM st hF ab 0 0 [3,4,5] [.of (fun w v=>Orb w v pmo pam msz mch) (fun _ _ _ h hb=>h.below hb),_,_] (by decide+kernel) rfl rfl rfl ⟨ck st Sb rfl fun _ s=>gi (vT _),rb st ab 1 1 rfl,ck st OB rfl fun _ s _ x3=>bf (B9 _ _ pmo pam msz mch (qt) k _ (hT.below s.bel) x3 (h1.below s.bel) sF sy Cn BV hl (by omega)) (nh hl),trivial⟩ fun r7 w8 a st hF=>nr<|rs Tryz.results152 st hF 1 0 ab rfl rfl rfl ?_
 exact⟨_,rfl,(st.f 0 rfl).1,st.bel⟩
theorem un (v1:Value) (qt:Rat) (k:Nat) (w:World) (hT:bE w) (h1:Rq w v1 qt) (hl:av qt k) (hk:k<=100):
 CQ 151 #[v1] w (bv qt):=by
 refine gs1 (nt:=9) Tryz.func151 rfl rfl rfl fun a st hF=>wq ?_
 obtain⟨r2,rfl⟩:=Rq.fo h1
 refine bx st hF 0 rfl rfl fun g1 w1 a st hF=>S.alloc st hF ab rfl rfl fun g2 w3 a st hF=>ns<|gz2 6 aM st hF ab 0 0 [3,4,5,6,7,8] [_,_,_,_,_,_] (by decide+kernel) rfl rfl rfl ⟨rb st ab 1 1 rfl,ck st SW rfl fun _ s=>bf (EC _ (qt) k _ (hT.below s.bel) (h1.below s.bel) hl (by omega)) (nh hl),rb st ab 1 1 rfl,ck st k85 rfl fun _ s=>bf (tU _ (qt) k _ (hT.below s.bel) (h1.below s.bel) hl (by omega)) (jc hl),ck st k35 rfl fun _ s _ x4 _ x6=>gR x4 x6,ck st N9 rfl fun _ s _ x7=>bf (sU _ ((pN (qt))-(eg (qt))) ((3*k+100)+(3*k+100)+1) _ x7.1 x7.2 (by omega)) (gz x7.2),trivial⟩ fun r7 w8 a st hF=>nr<|rs Tryz.results151 st hF 1 0 ab rfl rfl rfl ?_
 exact⟨_,rfl,(st.f 0 rfl).1,st.bel⟩
theorem wH (v1:Value) (qt:Rat) (k:Nat) (n:Int) (w:World) (h1:Rq w v1 qt) (hl:av qt k) (hk:k<=1000) (hn:0<n) (hn2:n<=1000) (h0:0<=qt) (h3:qt<((360:Int):Rat)):
 CV 84 #[v1,iv n] w (iv (prt qt n)):=by
 refine gs2 (nt:=16) Tryz.func84 rfl rfl rfl fun a st hF=>wq ?_
 obtain⟨r2,rfl⟩:=Rq.fo h1
 refine bx st hF 0 rfl rfl fun g2 w1 a st hF=>?_
 refine oC hF rfl fun a hF=>ns ?_
 refine E.rg 10 aM hF [8,9,10,11,12,7,13,14,5,6] [_,_,_,_,_,.ex (.tuple #[iv (jb (Rat.floor ((qt)*(((n:Int):Rat)/((360:Int):Rat))))),.bool (jh (Rat.floor ((qt)*(((n:Int):Rat)/((360:Int):Rat)))))]),.ex (iv (jb (Rat.floor ((qt)*(((n:Int):Rat)/((360:Int):Rat)))))),.ex (.bool (jh (Rat.floor ((qt)*(((n:Int):Rat)/((360:Int):Rat)))))),.ex (iv (jb (Rat.floor ((qt)*(((n:Int):Rat)/((360:Int):Rat)))))),.ex (.bool (jh (Rat.floor ((qt)*(((n:Int):Rat)/((360:Int):Rat))))))] (by decide+kernel) rfl rfl rfl ⟨rb st ab 1 0 rfl,rm 3 rfl,ck st k36 rfl fun _ s=>en,ck st dB rfl fun _ s _ x10=>dE ⟨(h1.below s.bel),hl⟩ x10,ck st vi rfl fun _ s _ x11=>bD (jT _ ((qt)*(((n:Int):Rat)/((360:Int):Rat))) (k+2) _ x11.1 x11.2 (by omega)),(by intro a' w' hF' hb hd;have e12:=tE hd 0 rfl;exact dv0 (aD e12) rfl rfl rfl),(by intro a' w' hF' hb hd;have e7:=tE hd 0 rfl;exact dv0 (aH (v:= iv (jb (Rat.floor ((qt)*(((n:Int):Rat)/((360:Int):Rat)))))) e7 rfl) rfl rfl rfl),(by intro a' w' hF' hb hd;have e7:=tE hd 0 rfl;exact dv0 (aH (v:= .bool (jh (Rat.floor ((qt)*(((n:Int):Rat)/((360:Int):Rat)))))) e7 rfl) rfl rfl rfl),(by intro a' w' hF' hb hd;have e13:=tE hd 0 rfl;exact dv0 (aZ e13) rfl rfl rfl),(by intro a' w' hF' hb hd;have e14:=tE hd 0 rfl;exact dv0 (aZ e14) rfl rfl rfl),trivial⟩ ?_
 intro a w3 hF bb hall
 replace st:=st.to bb
 replace hF:=rE hall hF 8 rfl rfl
 clear hall bb
 refine nq ?_
 refine oM hF 0 rfl rfl fun a hF=>oE hF 0 rfl rfl fun a hF=>nr ?_
 have bel:=st.bel
 refine rt Tryz.results84 hF 0 rfl ?_
 exact⟨ch (NB hn hn2 h0 h3),bel⟩
theorem Ei (v1:Value) (qt:Rat) (k:Nat) (w:World) (hT:bE w) (h1:Rq w v1 qt) (hl:av qt k) (hk:k<=100):
 CV 34 #[v1] w (iv (prt (eg qt) 12)):=by
 refine gs1 (nt:=6) Tryz.func34 rfl rfl rfl fun a st hF=>wq ?_
 obtain⟨r2,rfl⟩:=Rq.fo h1
 refine bx st hF 0 rfl rfl fun g1 w1 a st hF=>?_
 refine oC hF rfl fun a hF=>nq<|oL hF st 1 0 ab rfl rfl rfl rfl fun a hF=>S.ck st hF (rgc k85 (aG hF.o)) (bf (tU _ (qt) k _ (hT.below st.bel) (h1.below st.bel) hl (by omega)) (jc hl)) Rl.cl rfl fun vv4 w3 a st hF=>?_
 obtain⟨r6,rfl⟩:=Rq.fo (st.f 0 rfl).1
 refine cX st hF (rgc k84 (aL hF.o ao)) (wH _ _ (3*k+100) 12 _ (st.f 0 rfl).1 (st.f 0 rfl).2 (by omega) (by omega) (by omega) (zN _) (xi _)) rfl fun w7 a st hF=>?_
 have hpt84914:=kg (x:=eg (qt)) (n:=12) (by omega) (zN _) (xi _)
 refine oE hF 0 rfl rfl fun a hF=>nr ?_
 have bel:=st.bel
 refine rt Tryz.results34 hF 0 rfl ?_
 exact⟨rfl,bel⟩
theorem C6 (v1:Value) (qt:Rat) (k:Nat) (w:World) (hT:bE w) (h1:Rq w v1 qt) (hl:av qt k) (hk:k<=100):
 CV 80 #[v1] w (iv (prt (bv qt) 30+1)):=by
 refine gs1 (nt:=7) Tryz.func80 rfl rfl rfl fun a st hF=>wq ?_
 obtain⟨r2,rfl⟩:=Rq.fo h1
 refine bx st hF 0 rfl rfl fun g1 w1 a st hF=>?_
 refine oC hF rfl fun a hF=>nq<|oL hF st 1 0 ab rfl rfl rfl rfl fun a hF=>S.ck st hF (rgc CJ (aG hF.o)) (bf (un _ (qt) k _ (hT.below st.bel) (h1.below st.bel) hl (by omega)) (pR hl)) Rl.cl rfl fun vv4 w3 a st hF=>?_
 obtain⟨r6,rfl⟩:=Rq.fo (st.f 0 rfl).1
 refine cX st hF (rgc k84 (aL hF.o ao)) (wH _ _ (6*k+210) 30 _ (st.f 0 rfl).1 (st.f 0 rfl).2 (by omega) (by omega) (by omega) (mc _) (ls _)) rfl fun w7 a st hF=>?_
 have hpt36666:=kg (x:=bv (qt)) (n:=30) (by omega) (mc _) (ls _)
 refine oV hF (aq hF.o ao aa (aX (by omega) (by omega))) rfl fun a hF=>oE hF 0 rfl rfl fun a hF=>nr ?_
 have bel:=st.bel
 refine rt Tryz.results80 hF 0 rfl ?_
 exact⟨rfl,bel⟩
theorem Ff {v1:Value} {p1:Rat} {k1:Nat} {w:World} (hT:bE w) (x1:Rl p1 k1 w v1) (a1:k1<=100:=by omega):CP 85 #[v1] w (Ret (kq (eg (p1)) ((3*k1+100))) w):=bf (tU _ (p1) k1 _ hT x1.1 x1.2 (by omega)) (jc x1.2)
theorem tZ {v1:Value} {p1:Rat} {k1:Nat} {w:World} (hT:bE w) (x1:Rl p1 k1 w v1) (a1:k1<=100:=by omega):CP 151 #[v1] w (Ret (kq (bv (p1)) ((6*k1+210))) w):=bf (un _ (p1) k1 _ hT x1.1 x1.2 (by omega)) (pR x1.2)
theorem uh {v1:Value} {p1:Rat} {k1 i1:Nat} {w:World} (x1:Rh p1 k1 i1 w v1) (a1:k1<=3000:=by omega) (b1:1<=k1:=by omega) (c1:i1<=800:=by omega):CP 243 #[v1] w (Ret (kh (sof (p1)) ((k1+i1+40)) ((i1+12))) w):=bH (F0 _ (p1) k1 i1 _ x1.1 x1.2 (by omega) (by omega) (by omega)) (fL x1.2)
theorem DF {v1:Value} {p1:Rat} {k1 i1:Nat} {w:World} (x1:Rh p1 k1 i1 w v1) (a1:k1<=6000:=by omega) (b1:1<=k1:=by omega):CP 248 #[v1] w (Ret (kh (bF (p1)) ((k1+20)) ((i1+20))) w):=bH (Fj _ (p1) k1 _ x1.1 (by omega) (by omega)) (mS x1.2)
theorem Kb {x:Rat} {n:Int} (hn:0<n) (hn2:n<=1000):0<=Rat.floor ((rmod x ((360:Int):Rat))*(((n:Int):Rat)/((360:Int):Rat)))/\Rat.floor ((rmod x ((360:Int):Rat))*(((n:Int):Rat)/((360:Int):Rat)))<65536:=by
 have:=kg (n:=n) (x:=rmod x ((360:Int):Rat)) hn (fv bU) (eN bU)
 exact⟨show 0<=prt _ n by omega,show prt _ n<_ by omega⟩
theorem wX (v1 v2 v3 v4 v5:Value) (q1 q2 q3 q4 q5:Rat) (k i:Nat) (w:World) (h1:Rr w v1 q1 k) (h2:Rr w v2 q2 12) (h3:Rr w v3 q3 12) (h4:Rr w v4 q4 12) (h5:Rr w v5 q5 12) (li1:av q1 i) (li2:av q2 2) (li3:av q3 2) (li4:av q4 2) (li5:av q5 2) (hp:1<=k) (hk:k<=300) (hi:i<=10):
 CP 249 #[v1,v2,v3,v4,v5] w (cf w (atv q1 q2 q3 q4 q5) (3*k+8*i+400)):=by
 obtain⟨r1,rfl⟩:=h1.fo
 obtain⟨r2,rfl⟩:=h2.fo
 obtain⟨r3,rfl⟩:=h3.fo
 obtain⟨r4,rfl⟩:=h4.fo
 obtain⟨r5,rfl⟩:=h5.fo
 have st:=St.start w
 refine E.enter (nt:=37) (L:=[(0,r1.v),(1,r2.v),(2,r3.v),(3,r4.v),(4,r5.v)]) Tryz.func249 rfl rfl rfl (aC (i:=0) rfl (aC (i:=1) rfl (aC (i:=2) rfl (aC (i:=3) rfl (aC (i:=4) rfl cC))))) ?_
 intro a hF
 refine wq<|bx st hF 0 rfl rfl fun g5 w1 a st hF=>bx st hF 2 rfl rfl fun g6 w2 a st hF=>bx st hF 4 rfl rfl fun g7 w3 a st hF=>bx st hF 6 rfl rfl fun g8 w4 a st hF=>bx st hF 8 rfl rfl fun g9 w5 a st hF=>S.alloc st hF ag rfl rfl fun g10 w6 a st hF=>nq ?_
 refine oL hF st 5 5 ag rfl rfl rfl rfl fun a hF=>oL hF st 4 3 ag rfl rfl rfl rfl fun a hF=>S.ck st hF (rgc D0 (aL hF.p hF.o)) (D9 ⟨(h1.below st.bel),li1⟩ ⟨(h3.below st.bel),li3⟩) Rh.cl rfl fun vv8 w7 a st hF=>?_
 obtain⟨r10,rfl⟩:=Rr.fo (st.f 0 rfl).1
 refine S.ck st hF (rgc tt (aG hF.o)) (uh (st.f 0 rfl)) Rh.cl rfl fun vv12 w11 a st hF=>?_
 obtain⟨r14,rfl⟩:=Rr.fo (st.f 0 rfl).1
 refine S.new st hF 0 rfl ag rfl rfl rfl rfl rfl fun g11 w15 a st hF=>ns<|gz1 7 aM st hF ag [18,19,20,21,22,23,12] [_,_,_,_,_,_,_] (by decide+kernel) rfl rfl rfl ⟨rb st ag 0 0 rfl,ck st Dz rfl fun _ s=>bH (pQ _ (sof (mof (q1) (q3))) ((k+12+i+2+30)+(i+2+5)+40) _ (s.f 0 rfl).1) (hZ (s.f 0 rfl).2),rb st ag 6 2 rfl,ck st dA rfl fun _ s _ x19=>cR x19 ⟨(h5.below s.bel),li5⟩,rb st ag 7 3 rfl,ck st dA rfl fun _ s _ x21=>cR x21 ⟨(h4.below s.bel),li4⟩,ra ag rfl rfl,trivial⟩ fun r19 g12 w20 a st hF=>ns<|gz1 7 aM st hF ag [24,25,26,27,28,29,13] [_,_,_,_,_,_,_] (by decide+kernel) rfl rfl rfl ⟨rb st ag 2 1 rfl,rb st ag 9 4 rfl,rb st ag 0 0 rfl,ck st ij rfl fun _ s=>fU ⟨(h4.below s.bel),li4⟩ (s.f 0 rfl),ck st dA rfl fun _ s _ x27=>cR (s.f 1 rfl) x27,ck st J3 rfl fun _ s _ x28=>DF x28,ra ag rfl rfl,trivial⟩ fun r24 g13 w25 a st hF=>?_
 refine ns<|gz2 7 aM st hF ag 3 9 [30,31,32,33,34,35,36] [_,_,_,_,_,_,_] (by decide+kernel) rfl rfl rfl ⟨rb st ag 14 8 rfl,rb st ag 13 7 rfl,ck st D0 rfl fun _ s=>D9 ⟨(h1.below s.bel),li1⟩ ⟨(h2.below s.bel),li2⟩,rb st ag 0 0 rfl,ck st ij rfl fun _ s _ x32=>fU x32 (s.f 0 rfl),ck st bM rfl fun _ s=>eE,ck st vQ rfl fun _ s _ x34 _ x35=>uy x34 x35,trivial⟩ fun r29 w30 a st hF=>nr<|rs Tryz.results249 st hF 10 3 ag rfl rfl rfl ?_
 exact⟨_,rfl,Rr.cast (Rr.up (st.f 0 rfl).1 _ (by omega)) rfl,st.bel⟩
theorem uH (v1:Value) (q1:Rat) (k i:Nat) (w:World) (h1:Rr w v1 q1 k) (li1:av q1 i) (hp:1<=k) (hk:k<=300) (hi:i<=3):
 CP 204 #[v1] w (cf w (eg q1) (3*k+8*i+400)):=by
 obtain⟨r1,rfl⟩:=h1.fo
 refine gs1 (nt:=9) Tryz.func204 rfl rfl rfl fun a st hF=>wq<|bx st hF 0 rfl rfl fun g1 w1 a st hF=>S.alloc st hF ag rfl rfl fun g2 w2 a st hF=>ns ?_
 refine E.rg 6 aM hF [3,4,5,6,7,8] [_,_,_,_,_,.of (fun w v=>Rr w v (atv (q1) (pyr) (pay) (((7:Int):Rat)/((180:Int):Rat)) (((1:Int):Rat)/((42:Int):Rat))) ((3*k+8*i+400))) (fun _ _ _ h hb=>h.below hb)] (by decide+kernel) rfl rfl rfl ⟨rb st ag 1 1 rfl,ck st Dr rfl fun _ s=>yy,ck st Ii rfl fun _ s=>lQ,ck st bM rfl fun _ s=>dS,ck st bM rfl fun _ s=>dS,ck st OV rfl fun _ s _ x4 _ x5 _ x6 _ x7=>gi (wX _ _ _ _ _ (q1) (pyr) (pay) (((7:Int):Rat)/((180:Int):Rat)) (((1:Int):Rat)/((42:Int):Rat)) k i _ (h1.below s.bel) (Rr.up x4.1 12 (by omega)) (Rr.up x5.1 12 (by omega)) (Rr.up x6.1 12 (by omega)) (Rr.up x7.1 12 (by omega)) li1 x4.2 x5.2 x6.2 x7.2 (by omega) (by omega) (by omega)),trivial⟩ ?_
 intro a w3 hF bb hall
 replace st:=st.to bb
 obtain⟨vv4,hF,st⟩:=rS hall hF st 5 rfl rfl Rr.cl
 obtain⟨r6,rfl⟩:=Rr.fo (st.f 0 rfl)
 clear hall bb
 refine so st hF 0 1 0 ag rfl rfl rfl rfl fun w7 a st hF=>nr<|rs Tryz.results204 st hF 1 0 ag rfl rfl rfl ?_
 exact⟨_,rfl,Rr.cast (Rr.up (st.f 0 rfl) _ (by omega)) (by rw[show((7:Int):Rat)/((180:Int):Rat)=ssz by decide+kernel];rfl),st.bel⟩
theorem A1 (v1:Value) (q1:Rat) (k i:Nat) (w:World) (h1:Rr w v1 q1 k) (li1:av q1 i) (hp:1<=k) (hk:k<=300) (hi:i<=3):
 CP 205 #[v1] w (cf w (pN q1) (3*k+8*i+400)):=by
 obtain⟨r1,rfl⟩:=h1.fo
 refine gs1 (nt:=9) Tryz.func205 rfl rfl rfl fun a st hF=>wq<|bx st hF 0 rfl rfl fun g1 w1 a st hF=>S.alloc st hF ag rfl rfl fun g2 w2 a st hF=>ns ?_
 refine E.rg 6 aM hF [3,4,5,6,7,8] [_,_,_,_,_,.of (fun w v=>Rr w v (atv (q1) (pmo) (pam) (((4:Int):Rat)/((45:Int):Rat)) (((1:Int):Rat)/((96:Int):Rat))) ((3*k+8*i+400))) (fun _ _ _ h hb=>h.below hb)] (by decide+kernel) rfl rfl rfl ⟨rb st ag 1 1 rfl,ck st Sj rfl fun _ s=>LC,ck st SS rfl fun _ s=>vB,ck st bM rfl fun _ s=>dS,ck st bM rfl fun _ s=>dS,ck st OV rfl fun _ s _ x4 _ x5 _ x6 _ x7=>gi (wX _ _ _ _ _ (q1) (pmo) (pam) (((4:Int):Rat)/((45:Int):Rat)) (((1:Int):Rat)/((96:Int):Rat)) k i _ (h1.below s.bel) (Rr.up x4.1 12 (by omega)) (Rr.up x5.1 12 (by omega)) (Rr.up x6.1 12 (by omega)) (Rr.up x7.1 12 (by omega)) li1 x4.2 x5.2 x6.2 x7.2 (by omega) (by omega) (by omega)),trivial⟩ ?_
 intro a w3 hF bb hall
 replace st:=st.to bb
 obtain⟨vv4,hF,st⟩:=rS hall hF st 5 rfl rfl Rr.cl
 obtain⟨r6,rfl⟩:=Rr.fo (st.f 0 rfl)
 clear hall bb
 refine so st hF 0 1 0 ag rfl rfl rfl rfl fun w7 a st hF=>nr<|rs Tryz.results205 st hF 1 0 ag rfl rfl rfl ?_
 exact⟨_,rfl,Rr.cast (Rr.up (st.f 0 rfl) _ (by omega)) (by rw[show((4:Int):Rat)/((45:Int):Rat)=msz by decide+kernel];rfl),st.bel⟩
theorem Aq (v1:Value) (q1:Rat) (k i:Nat) (w:World) (h1:Rr w v1 q1 k) (li1:av q1 i) (hp:1<=k) (hk:k<=300) (hi:i<=3):
 CP 167 #[v1] w (cf w (bv q1) (6*k+22*i+1100)):=by
 obtain⟨r1,rfl⟩:=h1.fo
 refine gs1 (nt:=10) Tryz.func167 rfl rfl rfl fun a st hF=>wq<|bx st hF 0 rfl rfl fun g1 w1 a st hF=>S.alloc st hF ag rfl rfl fun g2 w2 a st hF=>ns<|gz2 7 aM st hF ag 0 0 [3,4,5,6,7,8,9] [_,_,_,_,_,_,_] (by decide+kernel) rfl rfl rfl ⟨rb st ag 1 1 rfl,ck st SY rfl fun _ s=>bH (A1 _ (q1) k i _ (h1.below s.bel) li1 (by omega) (by omega) (by omega)) (nh li1),rb st ag 1 1 rfl,ck st Pe rfl fun _ s=>bH (uH _ (q1) k i _ (h1.below s.bel) li1 (by omega) (by omega) (by omega)) (jc li1),ck st ij rfl fun _ s _ x4 _ x6=>fU x4 x6,ck st bM rfl fun _ s=>eE,ck st vQ rfl fun _ s _ x7 _ x8=>uy x7 x8,trivial⟩ fun r6 w7 a st hF=>?_
 refine nr<|rs Tryz.results167 st hF 1 0 ag rfl rfl rfl ?_
 exact⟨_,rfl,Rr.cast (Rr.up (st.f 0 rfl).1 _ (by omega)) rfl,st.bel⟩
theorem AY (v1:Value) (q1:Rat) (k i:Nat) (n:Int) (w:World) (h1:Rr w v1 q1 k) (li1:av q1 i) (hp:1<=k) (hk:k<=3000) (hi:i<=600) (hn:0<n) (hn2:n<=1000):
 CV 207 #[v1,iv n] w (iv (prt (rmod q1 ((360:Int):Rat)) n)):=by
 obtain⟨r1,rfl⟩:=h1.fo
 refine gs2 (nt:=12) Tryz.func207 rfl rfl rfl fun a st hF=>wq<|bx st hF 0 rfl rfl fun g2 w1 a st hF=>?_
 refine oC hF rfl fun a hF=>ns ?_
 refine E.rg 7 aM hF [5,6,7,8,9,10,11] [_,_,_,_,_,_,_] (by decide+kernel) rfl rfl rfl ⟨rb st ag 1 0 rfl,ck st bM rfl fun _ s=>eE,ck st vQ rfl fun _ s _ x6=>uy ⟨(h1.below s.bel),li1⟩ x6,rm 3 rfl,ck st bM rfl fun _ s=>dS,ck st dA rfl fun _ s _ x7 _ x9=>cR x7 x9,ck st CX rfl fun _ s _ x10=>bD (wQ _ ((rmod (q1) (((360:Int):Rat)))*(((n:Int):Rat)/((360:Int):Rat))) ((k+2+i+2+3)+2) _ x10.1 (by omega) (by omega) (Kb hn hn2).1 (Kb hn hn2).2),trivial⟩ ?_
 intro a w2 hF bb hall
 replace st:=st.to bb
 replace hF:=rE hall hF 6 rfl rfl
 clear hall bb
 refine oE hF 0 rfl rfl fun a hF=>nr ?_
 have bel:=st.bel
 refine rt Tryz.results207 hF 0 rfl ?_
 exact⟨rfl,bel⟩
theorem QQ {v1:Value} {p1:Rat} {k1 i1:Nat} {w:World} (x1:Rh p1 k1 i1 w v1) (a1:k1<=300:=by omega) (b1:1<=k1:=by omega) (c1:i1<=3:=by omega):CP 204 #[v1] w (Ret (kh (eg (p1)) ((3*k1+8*i1+400)) ((3*i1+100))) w):=bH (uH _ (p1) k1 i1 _ x1.1 x1.2 (by omega) (by omega) (by omega)) (jc x1.2)
theorem B0 {v1:Value} {p1:Rat} {k1 i1:Nat} {w:World} (x1:Rh p1 k1 i1 w v1) (a1:k1<=300:=by omega) (b1:1<=k1:=by omega) (c1:i1<=3:=by omega):CP 167 #[v1] w (Ret (kh (bv (p1)) ((6*k1+22*i1+1100)) ((6*i1+210))) w):=bH (Aq _ (p1) k1 i1 _ x1.1 x1.2 (by omega) (by omega) (by omega)) (pR x1.2)
end Go.Proofs.YtgdpkknapcgcbaaGreatDoor
