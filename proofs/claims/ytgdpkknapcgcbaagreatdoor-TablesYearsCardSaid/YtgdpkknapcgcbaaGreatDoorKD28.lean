import Derived.Test.YtgdpkknapcgcbaaGreatDoorKD17
import Derived.Test.YtgdpkknapcgcbaaGreatDoorKD24
namespace Go.Proofs.YtgdpkknapcgcbaaGreatDoor
open Go.RowKit
set_option maxRecDepth 100000
set_option linter.unusedVariables false
set_option maxHeartbeats 8000000
theorem GF {x:Rat} {n:Int} (hn:0<n) (hn2:n<=1000) (h0:0<=x) (h1:x<((360:Int):Rat)):fx (Rat.floor (x*(((n:Int):Rat)/((360:Int):Rat))))=prt x n:=by
 have:=j6 hn h0 h1
 exact jp (show _<=prt x n by omega) (show prt x n<=_ by omega)
theorem q6 (w:World):
 CP 155 #[] w (uV w pyr pay ssz sch):=by
 refine gs0 (nt:=6) Tryz.func155 rfl rfl fun a st hF=>wq<|S.alloc st hF jq rfl rfl fun g0 w1 a st hF=>nq<|S.ck st hF (rgc pY iI) (iX) Rl.cl rfl fun vv3 w2 a st hF=>?_
 obtain⟨r5,rfl⟩:=Rq.fo (st.f 0 rfl).1
 refine S.ck st hF (rgc F5 iI) (kh) Rl.cl rfl fun vv7 w6 a st hF=>?_
 obtain⟨r9,rfl⟩:=Rq.fo (st.f 0 rfl).1
 refine S.ck st hF (rgc k36 (aK ah ah)) cJ Rl.cl rfl fun vv11 w10 a st hF=>?_
 obtain⟨r13,rfl⟩:=Rq.fo (st.f 0 rfl).1
 refine S.ck st hF (rgc k36 (aK ah ah)) cJ Rl.cl rfl fun vv15 w14 a st hF=>?_
 obtain⟨r17,rfl⟩:=Rq.fo (st.f 0 rfl).1
 refine oV hF (bB (mK (hF.at 3 rfl) hF.q hF.p hF.o) (nj _ _ _ _ _ _ _ _ _ _ _ _ _ _ _ _ _ _ _ _ _ _ _ _ _ _ _ _ _)) rfl fun a hF=>so st hF 0 5 0 jq rfl rfl rfl rfl fun w18 a st hF=>nr<|rs Tryz.results155 st hF 5 0 jq rfl rfl rfl ?_
 exact⟨_,rfl,⟨_,_,_,_,_,_,_,_,_,_,_,_,_,_,_,_,_,_,_,_,_,_,_,_,_,_,_,_,rfl,(st.f 3 rfl).1,(st.f 2 rfl).1,(st.f 1 rfl).1,(st.f 0 rfl).1⟩,st.bel⟩
theorem pE (w:World):
 CP 210 #[] w (uV w pmo pam msz mch):=by
 refine gs0 (nt:=6) Tryz.func210 rfl rfl fun a st hF=>wq<|S.alloc st hF jq rfl rfl fun g0 w1 a st hF=>nq<|S.ck st hF (rgc IV iI) (BF) Rl.cl rfl fun vv3 w2 a st hF=>?_
 obtain⟨r5,rfl⟩:=Rq.fo (st.f 0 rfl).1
 refine S.ck st hF (rgc IZ iI) (pm) Rl.cl rfl fun vv7 w6 a st hF=>?_
 obtain⟨r9,rfl⟩:=Rq.fo (st.f 0 rfl).1
 refine S.ck st hF (rgc k36 (aK ah ah)) cJ Rl.cl rfl fun vv11 w10 a st hF=>?_
 obtain⟨r13,rfl⟩:=Rq.fo (st.f 0 rfl).1
 refine S.ck st hF (rgc k36 (aK ah ah)) cJ Rl.cl rfl fun vv15 w14 a st hF=>?_
 obtain⟨r17,rfl⟩:=Rq.fo (st.f 0 rfl).1
 refine oV hF (bB (mK (hF.at 3 rfl) hF.q hF.p hF.o) (nj _ _ _ _ _ _ _ _ _ _ _ _ _ _ _ _ _ _ _ _ _ _ _ _ _ _ _ _ _)) rfl fun a hF=>so st hF 0 5 0 jq rfl rfl rfl rfl fun w18 a st hF=>nr<|rs Tryz.results210 st hF 5 0 jq rfl rfl rfl ?_
 exact⟨_,rfl,⟨_,_,_,_,_,_,_,_,_,_,_,_,_,_,_,_,_,_,_,_,_,_,_,_,_,_,_,_,rfl,(st.f 3 rfl).1,(st.f 2 rfl).1,(st.f 1 rfl).1,(st.f 0 rfl).1⟩,st.bel⟩
theorem EE (v1 v2:Value) (qp qa qs qc qt:Rat) (k:Nat) (w:World) (hT:aY w) (ho:Orb w v1 qp qa qs qc) (h2:Rq w v2 qt) (lqp:ag qp 2) (lqa:ag qa 2) (lqs:ag qs 2) (lqc:ag qc 2) (hl:ag qt k) (hk:k<=100):
 CQ 214 #[v1,v2] w (eqv qt qa qs qc):=by
 obtain⟨qb1,qx1,qn1,qk1,qy1,qm1,qd1,qb2,qx2,qn2,qk2,qy2,qm2,qd2,qb3,qx3,qn3,qk3,qy3,qm3,qd3,qb4,qx4,qn4,qk4,qy4,qm4,qd4,rfl,hr1,hr2,hr3,hr4⟩:=ho
 have ho:Orb w (.agg #[.bool qb1,.slice qx1 qn1 qk1,.slice qy1 qm1 qd1,.bool qb2,.slice qx2 qn2 qk2,.slice qy2 qm2 qd2,.bool qb3,.slice qx3 qn3 qk3,.slice qy3 qm3 qd3,.bool qb4,.slice qx4 qn4 qk4,.slice qy4 qm4 qd4]) qp qa qs qc:=⟨_,_,_,_,_,_,_,_,_,_,_,_,_,_,_,_,_,_,_,_,_,_,_,_,_,_,_,_,rfl,hr1,hr2,hr3,hr4⟩
 refine gs2 (nt:=27) Tryz.func214 rfl rfl rfl fun a st hF=>wq<|bx st hF 0 rfl rfl fun g2 w1 a st hF=>?_
 obtain⟨r3,rfl⟩:=Rq.fo h2
 refine bx st hF 2 rfl rfl fun g3 w2 a st hF=>S.alloc st hF aa rfl rfl fun g4 w4 a st hF=>nq<|oL hF st 1 1 aa rfl rfl rfl rfl fun a hF=>oV hF (au (hF.at 3 rfl) (Ae (p:=3) rfl)) rfl fun a hF=>oV hF (ar hF.o (fQ (vs:=[.bool qb2,.slice qx2 qn2 qk2,.slice qy2 qm2 qd2]) (st.b 2 rfl rfl) rfl rfl)) rfl fun a hF=>S.ck st hF (rgc zN (aK hF.q hF.o)) (wP ⟨(h2.below st.bel),hl⟩ ⟨(hr2.below st.bel),lqa⟩) Rl.cl rfl fun vv6 w5 a st hF=>?_
 obtain⟨r8,rfl⟩:=Rq.fo (st.f 0 rfl).1
 refine S.ck st hF (rgc pT (aC hF.o)) (qOf (hT.below st.bel) (st.f 0 rfl)) Rl.cl rfl fun vv10 w9 a st hF=>?_
 obtain⟨r12,rfl⟩:=Rq.fo (st.f 0 rfl).1
 refine S.new st hF 0 rfl aa rfl rfl rfl rfl rfl fun g5 w13 a st hF=>ns<|gz1 9 aI st hF aa [12,13,14,15,16,17,18,19,6] [_,_,_,_,_,_,_,_,_] (by decide+kernel) rfl rfl rfl ⟨rb st aa 0 0 rfl,ck st BW rfl fun _ s=>BK (s.f 0 rfl),rfd 8 (fun _=>A9 (p:=9) rfl) rfl,rld rfl fun _ hb=>(fQ (vs:=[.bool qb4,.slice qx4 qn4 qk4,.slice qy4 qm4 qd4]) ((st.b 3 rfl rfl).below hb) rfl rfl),ck st co rfl fun _ s _ x13=>cv x13 ⟨(hr4.below s.bel),lqc⟩,rfd 8 (fun _=>rR (p:=6) rfl) rfl,rld rfl fun _ hb=>(fQ (vs:=[.bool qb3,.slice qx3 qn3 qk3,.slice qy3 qm3 qd3]) ((st.b 3 rfl rfl).below hb) rfl rfl),ck st co rfl fun _ s _ x16=>cv x16 ⟨(hr3.below s.bel),lqs⟩,ra aa rfl rfl,trivial⟩ fun r17 g6 w18 a st hF=>ns<|gz2 7 aI st hF aa 2 8 [20,21,22,23,24,25,26] [_,_,_,_,_,_,_] (by decide+kernel) rfl rfl rfl ⟨rb st aa 2 1 rfl,rfd 10 (fun _=>rR (p:=6) rfl) rfl,rld rfl fun _ hb=>(fQ (vs:=[.bool qb3,.slice qx3 qn3 qk3,.slice qy3 qm3 qd3]) ((st.b 4 rfl rfl).below hb) rfl rfl),rb st aa 0 0 rfl,ck st k35 rfl fun _ s=>eg ⟨(hr3.below s.bel),lqs⟩ (s.f 0 rfl),ck st co rfl fun _ s _ x24=>cv (s.f 1 rfl) x24,ck st wQ rfl fun _ s _ x25=>B3 (hT.below s.bel) x25,trivial⟩ fun r22 w23 a st hF=>?_
 refine nr<|rs Tryz.results214 st hF 9 2 aa rfl rfl rfl ?_
 exact⟨_,rfl,(st.f 0 rfl).1,st.bel⟩
theorem m7 (v1:Value) (qt:Rat) (k:Nat) (w:World) (h1:Rq w v1 qt) (hl:ag qt k) (hk:k<=1000):
 CQ 153 #[v1] w (rmod qt ((360:Int):Rat)):=by
 refine gs1 (nt:=6) Tryz.func153 rfl rfl rfl fun a st hF=>wq ?_
 obtain⟨r2,rfl⟩:=Rq.fo h1
 refine bx st hF 0 rfl rfl fun g1 w1 a st hF=>S.alloc st hF aa rfl rfl fun g2 w3 a st hF=>ns<|gz2 3 aI st hF aa 0 0 [3,4,5] [_,_,_] (by decide+kernel) rfl rfl rfl ⟨rb st aa 1 1 rfl,ck st k40 rfl fun _ s=>cH,ck st wi rfl fun _ s _ x4=>Ce ⟨(h1.below s.bel),hl⟩ x4,trivial⟩ fun r7 w8 a st hF=>nr<|rs Tryz.results153 st hF 1 0 aa rfl rfl rfl ?_
 exact⟨_,rfl,(st.f 0 rfl).1,st.bel⟩
theorem vw (v1 v2:Value) (qp qa qs qc qt:Rat) (k:Nat) (w:World) (hT:aY w) (ho:Orb w v1 qp qa qs qc) (h2:Rq w v2 qt) (lqp:ag qp 2) (lqa:ag qa 2) (lqs:ag qs 2) (lqc:ag qc 2) (hl:ag qt k) (hk:k<=100):
 CQ 156 #[v1,v2] w (atv qt qp qa qs qc):=by
 obtain⟨qb1,qx1,qn1,qk1,qy1,qm1,qd1,qb2,qx2,qn2,qk2,qy2,qm2,qd2,qb3,qx3,qn3,qk3,qy3,qm3,qd3,qb4,qx4,qn4,qk4,qy4,qm4,qd4,rfl,hr1,hr2,hr3,hr4⟩:=ho
 have ho:Orb w (.agg #[.bool qb1,.slice qx1 qn1 qk1,.slice qy1 qm1 qd1,.bool qb2,.slice qx2 qn2 qk2,.slice qy2 qm2 qd2,.bool qb3,.slice qx3 qn3 qk3,.slice qy3 qm3 qd3,.bool qb4,.slice qx4 qn4 qk4,.slice qy4 qm4 qd4]) qp qa qs qc:=⟨_,_,_,_,_,_,_,_,_,_,_,_,_,_,_,_,_,_,_,_,_,_,_,_,_,_,_,_,rfl,hr1,hr2,hr3,hr4⟩
 refine gs2 (nt:=14) Tryz.func156 rfl rfl rfl fun a st hF=>wq<|bx st hF 0 rfl rfl fun g2 w1 a st hF=>?_
 obtain⟨r3,rfl⟩:=Rq.fo h2
 refine bx st hF 2 rfl rfl fun g3 w2 a st hF=>S.alloc st hF aa rfl rfl fun g4 w4 a st hF=>ns<|gz2 9 aI st hF aa 0 0 [5,6,7,8,9,10,11,12,13] [_,_,_,_,_,_,_,_,_] (by decide+kernel) rfl rfl rfl ⟨rb st aa 1 1 rfl,rfd 2 (fun _=>Ad (p:=0) rfl) rfl,rld rfl fun _ hb=>(fQ (vs:=[.bool qb1,.slice qx1 qn1 qk1,.slice qy1 qm1 qd1]) ((st.b 2 rfl rfl).below hb) rfl rfl),ck st zN rfl fun _ s=>wP ⟨(h2.below s.bel),hl⟩ ⟨(hr1.below s.bel),lqp⟩,rb st jq 2 2 rfl,rb st aa 1 1 rfl,ck st IK rfl fun _ s=>aB (EE _ _ qp qa qs qc (qt) k _ (hT.below s.bel) (ho.below s.bel) (h2.below s.bel) lqp lqa lqs lqc hl (by omega)) (vE hl lqa lqs lqc),ck st k35 rfl fun _ s _ x8 _ x11=>eg x8 x11,ck st FU rfl fun _ s _ x12=>aB (m7 _ ((mof (qt) (qp))-(eqv (qt) qa qs qc)) ((k+2+5)+(2*k+2*2+2*2+2+60)+1) _ x12.1 x12.2 (by omega)) (fj x12.2),trivial⟩ fun r8 w9 a st hF=>nr ?_
 refine rs Tryz.results156 st hF 1 0 aa rfl rfl rfl ?_
 exact⟨_,rfl,(st.f 0 rfl).1,st.bel⟩
theorem nG (v1:Value) (qt:Rat) (k:Nat) (w:World) (hT:aY w) (h1:Rq w v1 qt) (hl:ag qt k) (hk:k<=100):
 CQ 85 #[v1] w (cV qt):=by
 refine gs1 (nt:=6) Tryz.func85 rfl rfl rfl fun a st hF=>wq ?_
 obtain⟨r2,rfl⟩:=Rq.fo h1
 refine bx st hF 0 rfl rfl fun g1 w1 a st hF=>S.alloc st hF aa rfl rfl fun g2 w3 a st hF=>ns<|gz2 3 aI st hF aa 0 0 [3,4,5] [.of (fun w v=>Orb w v pyr pay ssz sch) (fun _ _ _ h hb=>h.below hb),_,_] (by decide+kernel) rfl rfl rfl ⟨ck st IL rfl fun _ s=>jd (q6 _),rb st aa 1 1 rfl,ck st Ff rfl fun _ s _ x3=>aB (vw _ _ pyr pay ssz sch (qt) k _ (hT.below s.bel) x3 (h1.below s.bel) pN mv vM vL hl (by omega)) (gQ hl),trivial⟩ fun r7 w8 a st hF=>nr<|rs Tryz.results85 st hF 1 0 aa rfl rfl rfl ?_
 exact⟨_,rfl,(st.f 0 rfl).1,st.bel⟩
theorem y7 (v1:Value) (qt:Rat) (k:Nat) (w:World) (hT:aY w) (h1:Rq w v1 qt) (hl:ag qt k) (hk:k<=100):
 CQ 152 #[v1] w (mA qt):=by
 refine gs1 (nt:=6) Tryz.func152 rfl rfl rfl fun a st hF=>wq ?_
 obtain⟨r2,rfl⟩:=Rq.fo h1
 refine bx st hF 0 rfl rfl fun g1 w1 a st hF=>S.alloc st hF aa rfl rfl fun g2 w3 a st hF=>ns<|gz2 3 aI st hF aa 0 0 [3,4,5] [.of (fun w v=>Orb w v pmo pam msz mch) (fun _ _ _ h hb=>h.below hb),_,_] (by decide+kernel) rfl rfl rfl ⟨ck st IH rfl fun _ s=>jd (pE _),rb st aa 1 1 rfl,ck st Ff rfl fun _ s _ x3=>aB (vw _ _ pmo pam msz mch (qt) k _ (hT.below s.bel) x3 (h1.below s.bel) pI pL vf vP hl (by omega)) (lP hl),trivial⟩ fun r7 w8 a st hF=>nr<|rs Tryz.results152 st hF 1 0 aa rfl rfl rfl ?_
 exact⟨_,rfl,(st.f 0 rfl).1,st.bel⟩
theorem o9 (v1:Value) (qt:Rat) (k:Nat) (w:World) (hT:aY w) (h1:Rq w v1 qt) (hl:ag qt k) (hk:k<=100):
 CQ 151 #[v1] w (bf qt):=by
 refine gs1 (nt:=9) Tryz.func151 rfl rfl rfl fun a st hF=>wq ?_
 obtain⟨r2,rfl⟩:=Rq.fo h1
 refine bx st hF 0 rfl rfl fun g1 w1 a st hF=>S.alloc st hF aa rfl rfl fun g2 w3 a st hF=>ns<|gz2 6 aI st hF aa 0 0 [3,4,5,6,7,8] [_,_,_,_,_,_] (by decide+kernel) rfl rfl rfl ⟨rb st aa 1 1 rfl,ck st I3 rfl fun _ s=>aB (y7 _ (qt) k _ (hT.below s.bel) (h1.below s.bel) hl (by omega)) (lP hl),rb st aa 1 1 rfl,ck st k85 rfl fun _ s=>aB (nG _ (qt) k _ (hT.below s.bel) (h1.below s.bel) hl (by omega)) (gQ hl),ck st k35 rfl fun _ s _ x4 _ x6=>eg x4 x6,ck st FU rfl fun _ s _ x7=>aB (m7 _ ((mA (qt))-(cV (qt))) ((3*k+100)+(3*k+100)+1) _ x7.1 x7.2 (by omega)) (fj x7.2),trivial⟩ fun r7 w8 a st hF=>nr<|rs Tryz.results151 st hF 1 0 aa rfl rfl rfl ?_
 exact⟨_,rfl,(st.f 0 rfl).1,st.bel⟩
theorem qK (v1:Value) (qt:Rat) (k:Nat) (n:Int) (w:World) (h1:Rq w v1 qt) (hl:ag qt k) (hk:k<=1000) (hn:0<n) (hn2:n<=1000) (h0:0<=qt) (h3:qt<((360:Int):Rat)):
 CV 84 #[v1,iv n] w (iv (prt qt n)):=by
 refine gs2 (nt:=16) Tryz.func84 rfl rfl rfl fun a st hF=>wq ?_
 obtain⟨r2,rfl⟩:=Rq.fo h1
 refine bx st hF 0 rfl rfl fun g2 w1 a st hF=>?_
 refine oC hF rfl fun a hF=>ns ?_
 refine E.rg 10 aI hF [8,9,10,11,12,7,13,14,5,6] [_,_,_,_,_,.ex (.tuple #[iv (fx (Rat.floor ((qt)*(((n:Int):Rat)/((360:Int):Rat))))),.bool (fN (Rat.floor ((qt)*(((n:Int):Rat)/((360:Int):Rat)))))]),.ex (iv (fx (Rat.floor ((qt)*(((n:Int):Rat)/((360:Int):Rat)))))),.ex (.bool (fN (Rat.floor ((qt)*(((n:Int):Rat)/((360:Int):Rat)))))),.ex (iv (fx (Rat.floor ((qt)*(((n:Int):Rat)/((360:Int):Rat)))))),.ex (.bool (fN (Rat.floor ((qt)*(((n:Int):Rat)/((360:Int):Rat))))))] (by decide+kernel) rfl rfl rfl ⟨rb st aa 1 0 rfl,rm 3 rfl,ck st k36 rfl fun _ s=>cJ,ck st co rfl fun _ s _ x10=>cv ⟨(h1.below s.bel),hl⟩ x10,ck st nY rfl fun _ s _ x11=>bJ (gt _ ((qt)*(((n:Int):Rat)/((360:Int):Rat))) (k+2) _ x11.1 x11.2 (by omega)),(by intro a' w' hF' hb hd;have e12:=tE hd 0 rfl;exact dv0 (aG e12) rfl rfl rfl),(by intro a' w' hF' hb hd;have e7:=tE hd 0 rfl;exact dv0 (aA (v:= iv (fx (Rat.floor ((qt)*(((n:Int):Rat)/((360:Int):Rat)))))) e7 rfl) rfl rfl rfl),(by intro a' w' hF' hb hd;have e7:=tE hd 0 rfl;exact dv0 (aA (v:= .bool (fN (Rat.floor ((qt)*(((n:Int):Rat)/((360:Int):Rat)))))) e7 rfl) rfl rfl rfl),(by intro a' w' hF' hb hd;have e13:=tE hd 0 rfl;exact dv0 (aQ e13) rfl rfl rfl),(by intro a' w' hF' hb hd;have e14:=tE hd 0 rfl;exact dv0 (aQ e14) rfl rfl rfl),trivial⟩ ?_
 intro a w3 hF bb hall
 replace st:=st.to bb
 replace hF:=rE hall hF 8 rfl rfl
 clear hall bb
 refine nq ?_
 refine oM hF 0 rfl rfl fun a hF=>oE hF 0 rfl rfl fun a hF=>nr ?_
 have bel:=st.bel
 refine rt Tryz.results84 hF 0 rfl ?_
 exact⟨bU (GF hn hn2 h0 h3),bel⟩
theorem qX (v1:Value) (qt:Rat) (k:Nat) (w:World) (hT:aY w) (h1:Rq w v1 qt) (hl:ag qt k) (hk:k<=100):
 CV 34 #[v1] w (iv (prt (cV qt) 12)):=by
 refine gs1 (nt:=6) Tryz.func34 rfl rfl rfl fun a st hF=>wq ?_
 obtain⟨r2,rfl⟩:=Rq.fo h1
 refine bx st hF 0 rfl rfl fun g1 w1 a st hF=>?_
 refine oC hF rfl fun a hF=>nq<|oL hF st 1 0 aa rfl rfl rfl rfl fun a hF=>S.ck st hF (rgc k85 (aC hF.o)) (aB (nG _ (qt) k _ (hT.below st.bel) (h1.below st.bel) hl (by omega)) (gQ hl)) Rl.cl rfl fun vv4 w3 a st hF=>?_
 obtain⟨r6,rfl⟩:=Rq.fo (st.f 0 rfl).1
 refine cX st hF (rgc k84 (aK hF.o ah)) (qK _ _ (3*k+100) 12 _ (st.f 0 rfl).1 (st.f 0 rfl).2 (by omega) (by omega) (by omega) (sj _) (qy _)) rfl fun w7 a st hF=>?_
 have hpt84914:=j6 (x:=cV (qt)) (n:=12) (by omega) (sj _) (qy _)
 refine oE hF 0 rfl rfl fun a hF=>nr ?_
 have bel:=st.bel
 refine rt Tryz.results34 hF 0 rfl ?_
 exact⟨rfl,bel⟩
theorem wB (v1:Value) (qt:Rat) (k:Nat) (w:World) (hT:aY w) (h1:Rq w v1 qt) (hl:ag qt k) (hk:k<=100):
 CV 80 #[v1] w (iv (prt (bf qt) 30+1)):=by
 refine gs1 (nt:=7) Tryz.func80 rfl rfl rfl fun a st hF=>wq ?_
 obtain⟨r2,rfl⟩:=Rq.fo h1
 refine bx st hF 0 rfl rfl fun g1 w1 a st hF=>?_
 refine oC hF rfl fun a hF=>nq<|oL hF st 1 0 aa rfl rfl rfl rfl fun a hF=>S.ck st hF (rgc wk (aC hF.o)) (aB (o9 _ (qt) k _ (hT.below st.bel) (h1.below st.bel) hl (by omega)) (pn hl)) Rl.cl rfl fun vv4 w3 a st hF=>?_
 obtain⟨r6,rfl⟩:=Rq.fo (st.f 0 rfl).1
 refine cX st hF (rgc k84 (aK hF.o ah)) (qK _ _ (6*k+210) 30 _ (st.f 0 rfl).1 (st.f 0 rfl).2 (by omega) (by omega) (by omega) (iP _) (hC _)) rfl fun w7 a st hF=>?_
 have hpt36666:=j6 (x:=bf (qt)) (n:=30) (by omega) (iP _) (hC _)
 refine oV hF (ao hF.o ah ab (aU (by omega) (by omega))) rfl fun a hF=>oE hF 0 rfl rfl fun a hF=>nr ?_
 have bel:=st.bel
 refine rt Tryz.results80 hF 0 rfl ?_
 exact⟨rfl,bel⟩
theorem xy {v1:Value} {p1:Rat} {k1:Nat} {w:World} (hT:aY w) (x1:Rl p1 k1 w v1) (a1:k1<=100:=by omega):CP 85 #[v1] w (Ret (kq (cV (p1)) ((3*k1+100))) w):=aB (nG _ (p1) k1 _ hT x1.1 x1.2 (by omega)) (gQ x1.2)
theorem nZ {v1:Value} {p1:Rat} {k1:Nat} {w:World} (hT:aY w) (x1:Rl p1 k1 w v1) (a1:k1<=100:=by omega):CP 151 #[v1] w (Ret (kq (bf (p1)) ((6*k1+210))) w):=aB (o9 _ (p1) k1 _ hT x1.1 x1.2 (by omega)) (pn x1.2)
end Go.Proofs.YtgdpkknapcgcbaaGreatDoor
