import Derived.Test.YtgdpkknapcgcbaaGreatDoorKB20
import Derived.Test.YtgdpkknapcgcbaaGreatDoorKB23
namespace Go.Proofs.YtgdpkknapcgcbaaGreatDoor
open Go.RowKit
set_option maxRecDepth 100000
set_option linter.unusedVariables false
set_option maxHeartbeats 8000000
def uO (t:Rat):Rat:=rmod (bK t+bp t) ((360:Int):Rat)
theorem Eb {x:Rat} {n:Int} (hn:0<n) (hn2:n<=1000) (h0:0<=x) (h1:x<((360:Int):Rat)):ft (Rat.floor (x*(((n:Int):Rat)/((360:Int):Rat))))=prt x n:=by
 have:=dz hn h0 h1
 exact rc (show _<=prt x n by omega) (show prt x n<=_ by omega)
theorem qe (w:World):
 CP 155 #[] w (ua w pyr pay ssz sch):=by
 refine gs0 (nt:=6) Tryz.func155 rfl rfl fun a st hF=>wq<|S.alloc st hF iA rfl rfl fun g0 w1 a st hF=>nq<|S.ck st hF (rgc zW ic) (pi) Rl.cl rfl fun vv3 w2 a st hF=>?_
 obtain⟨r5,rfl⟩:=Rq.fo (st.f 0 rfl).1
 refine S.ck st hF (rgc D8 ic) (jP) Rl.cl rfl fun vv7 w6 a st hF=>?_
 obtain⟨r9,rfl⟩:=Rq.fo (st.f 0 rfl).1
 refine S.ck st hF (rgc k36 (aA ah ah)) cG Rl.cl rfl fun vv11 w10 a st hF=>?_
 obtain⟨r13,rfl⟩:=Rq.fo (st.f 0 rfl).1
 refine S.ck st hF (rgc k36 (aA ah ah)) cG Rl.cl rfl fun vv15 w14 a st hF=>?_
 obtain⟨r17,rfl⟩:=Rq.fo (st.f 0 rfl).1
 refine oV hF (a7 (j9 (hF.at 3 rfl) hF.q hF.p hF.o) (mr _ _ _ _ _ _ _ _ _ _ _ _ _ _ _ _ _ _ _ _ _ _ _ _ _ _ _ _ _)) rfl fun a hF=>so st hF 0 5 0 iA rfl rfl rfl rfl fun w18 a st hF=>nr<|rs Tryz.results155 st hF 5 0 iA rfl rfl rfl ?_
 exact⟨_,rfl,⟨_,_,_,_,_,_,_,_,_,_,_,_,_,_,_,_,_,_,_,_,_,_,_,_,_,_,_,_,rfl,(st.f 3 rfl).1,(st.f 2 rfl).1,(st.f 1 rfl).1,(st.f 0 rfl).1⟩,st.bel⟩
theorem oQ (w:World):
 CP 210 #[] w (ua w pmo pam msz mch):=by
 refine gs0 (nt:=6) Tryz.func210 rfl rfl fun a st hF=>wq<|S.alloc st hF iA rfl rfl fun g0 w1 a st hF=>nq<|S.ck st hF (rgc F8 ic) (zw) Rl.cl rfl fun vv3 w2 a st hF=>?_
 obtain⟨r5,rfl⟩:=Rq.fo (st.f 0 rfl).1
 refine S.ck st hF (rgc FU ic) (nA) Rl.cl rfl fun vv7 w6 a st hF=>?_
 obtain⟨r9,rfl⟩:=Rq.fo (st.f 0 rfl).1
 refine S.ck st hF (rgc k36 (aA ah ah)) cG Rl.cl rfl fun vv11 w10 a st hF=>?_
 obtain⟨r13,rfl⟩:=Rq.fo (st.f 0 rfl).1
 refine S.ck st hF (rgc k36 (aA ah ah)) cG Rl.cl rfl fun vv15 w14 a st hF=>?_
 obtain⟨r17,rfl⟩:=Rq.fo (st.f 0 rfl).1
 refine oV hF (a7 (j9 (hF.at 3 rfl) hF.q hF.p hF.o) (mr _ _ _ _ _ _ _ _ _ _ _ _ _ _ _ _ _ _ _ _ _ _ _ _ _ _ _ _ _)) rfl fun a hF=>so st hF 0 5 0 iA rfl rfl rfl rfl fun w18 a st hF=>nr<|rs Tryz.results210 st hF 5 0 iA rfl rfl rfl ?_
 exact⟨_,rfl,⟨_,_,_,_,_,_,_,_,_,_,_,_,_,_,_,_,_,_,_,_,_,_,_,_,_,_,_,_,rfl,(st.f 3 rfl).1,(st.f 2 rfl).1,(st.f 1 rfl).1,(st.f 0 rfl).1⟩,st.bel⟩
theorem BF (v1 v2:Value) (qp qa qs qc qt:Rat) (k:Nat) (w:World) (hT:a6 w) (ho:Orb w v1 qp qa qs qc) (h2:Rq w v2 qt) (lqp:ag qp 2) (lqa:ag qa 2) (lqs:ag qs 2) (lqc:ag qc 2) (hl:ag qt k) (hk:k<=100):
 CQ 214 #[v1,v2] w (eqv qt qa qs qc):=by
 obtain⟨qb1,qx1,qn1,qk1,qy1,qm1,qd1,qb2,qx2,qn2,qk2,qy2,qm2,qd2,qb3,qx3,qn3,qk3,qy3,qm3,qd3,qb4,qx4,qn4,qk4,qy4,qm4,qd4,rfl,hr1,hr2,hr3,hr4⟩:=ho
 have ho:Orb w (.agg #[.bool qb1,.slice qx1 qn1 qk1,.slice qy1 qm1 qd1,.bool qb2,.slice qx2 qn2 qk2,.slice qy2 qm2 qd2,.bool qb3,.slice qx3 qn3 qk3,.slice qy3 qm3 qd3,.bool qb4,.slice qx4 qn4 qk4,.slice qy4 qm4 qd4]) qp qa qs qc:=⟨_,_,_,_,_,_,_,_,_,_,_,_,_,_,_,_,_,_,_,_,_,_,_,_,_,_,_,_,rfl,hr1,hr2,hr3,hr4⟩
 refine gs2 (nt:=27) Tryz.func214 rfl rfl rfl fun a st hF=>wq<|bx st hF 0 rfl rfl fun g2 w1 a st hF=>?_
 obtain⟨r3,rfl⟩:=Rq.fo h2
 refine bx st hF 2 rfl rfl fun g3 w2 a st hF=>S.alloc st hF aa rfl rfl fun g4 w4 a st hF=>nq<|oL hF st 1 1 aa rfl rfl rfl rfl fun a hF=>oV hF (ao (hF.at 3 rfl) (yY (p:=3) rfl)) rfl fun a hF=>oV hF (aq hF.o (fP (vs:=[.bool qb2,.slice qx2 qn2 qk2,.slice qy2 qm2 qd2]) (st.b 2 rfl rfl) rfl rfl)) rfl fun a hF=>S.ck st hF (rgc yJ (aA hF.q hF.o)) (uS ⟨(h2.below st.bel),hl⟩ ⟨(hr2.below st.bel),lqa⟩) Rl.cl rfl fun vv6 w5 a st hF=>?_
 obtain⟨r8,rfl⟩:=Rq.fo (st.f 0 rfl).1
 refine S.ck st hF (rgc oW (aB hF.o)) (qOf (hT.below st.bel) (st.f 0 rfl)) Rl.cl rfl fun vv10 w9 a st hF=>?_
 obtain⟨r12,rfl⟩:=Rq.fo (st.f 0 rfl).1
 refine S.new st hF 0 rfl aa rfl rfl rfl rfl rfl fun g5 w13 a st hF=>ns<|gz1 9 aF st hF aa [12,13,14,15,16,17,18,19,6] [_,_,_,_,_,_,_,_,_] (by decide+kernel) rfl rfl rfl ⟨rb st aa 0 0 rfl,ck st zV rfl fun _ s=>zb (s.f 0 rfl),rfd 8 (fun _=>yb (p:=9) rfl) rfl,rld rfl fun _ hb=>(fP (vs:=[.bool qb4,.slice qx4 qn4 qk4,.slice qy4 qm4 qd4]) ((st.b 3 rfl rfl).below hb) rfl rfl),ck st cj rfl fun _ s _ x13=>cx x13 ⟨(hr4.below s.bel),lqc⟩,rfd 8 (fun _=>rU (p:=6) rfl) rfl,rld rfl fun _ hb=>(fP (vs:=[.bool qb3,.slice qx3 qn3 qk3,.slice qy3 qm3 qd3]) ((st.b 3 rfl rfl).below hb) rfl rfl),ck st cj rfl fun _ s _ x16=>cx x16 ⟨(hr3.below s.bel),lqs⟩,ra aa rfl rfl,trivial⟩ fun r17 g6 w18 a st hF=>ns<|gz2 7 aF st hF aa 2 8 [20,21,22,23,24,25,26] [_,_,_,_,_,_,_] (by decide+kernel) rfl rfl rfl ⟨rb st aa 2 1 rfl,rfd 10 (fun _=>rU (p:=6) rfl) rfl,rld rfl fun _ hb=>(fP (vs:=[.bool qb3,.slice qx3 qn3 qk3,.slice qy3 qm3 qd3]) ((st.b 4 rfl rfl).below hb) rfl rfl),rb st aa 0 0 rfl,ck st k35 rfl fun _ s=>er ⟨(hr3.below s.bel),lqs⟩ (s.f 0 rfl),ck st cj rfl fun _ s _ x24=>cx (s.f 1 rfl) x24,ck st uP rfl fun _ s _ x25=>zM (hT.below s.bel) x25,trivial⟩ fun r22 w23 a st hF=>?_
 refine nr<|rs Tryz.results214 st hF 9 2 aa rfl rfl rfl ?_
 exact⟨_,rfl,(st.f 0 rfl).1,st.bel⟩
theorem gS (v1:Value) (qt:Rat) (k:Nat) (w:World) (h1:Rq w v1 qt) (hl:ag qt k) (hk:k<=1000):
 CQ 153 #[v1] w (rmod qt ((360:Int):Rat)):=by
 refine gs1 (nt:=6) Tryz.func153 rfl rfl rfl fun a st hF=>wq ?_
 obtain⟨r2,rfl⟩:=Rq.fo h1
 refine bx st hF 0 rfl rfl fun g1 w1 a st hF=>S.alloc st hF aa rfl rfl fun g2 w3 a st hF=>ns<|gz2 3 aF st hF aa 0 0 [3,4,5] [_,_,_] (by decide+kernel) rfl rfl rfl ⟨rb st aa 1 1 rfl,ck st k40 rfl fun _ s=>ei,ck st vd rfl fun _ s _ x4=>AF ⟨(h1.below s.bel),hl⟩ x4,trivial⟩ fun r7 w8 a st hF=>nr<|rs Tryz.results153 st hF 1 0 aa rfl rfl rfl ?_
 exact⟨_,rfl,(st.f 0 rfl).1,st.bel⟩
theorem um (v1 v2:Value) (qp qa qs qc qt:Rat) (k:Nat) (w:World) (hT:a6 w) (ho:Orb w v1 qp qa qs qc) (h2:Rq w v2 qt) (lqp:ag qp 2) (lqa:ag qa 2) (lqs:ag qs 2) (lqc:ag qc 2) (hl:ag qt k) (hk:k<=100):
 CQ 156 #[v1,v2] w (atv qt qp qa qs qc):=by
 obtain⟨qb1,qx1,qn1,qk1,qy1,qm1,qd1,qb2,qx2,qn2,qk2,qy2,qm2,qd2,qb3,qx3,qn3,qk3,qy3,qm3,qd3,qb4,qx4,qn4,qk4,qy4,qm4,qd4,rfl,hr1,hr2,hr3,hr4⟩:=ho
 have ho:Orb w (.agg #[.bool qb1,.slice qx1 qn1 qk1,.slice qy1 qm1 qd1,.bool qb2,.slice qx2 qn2 qk2,.slice qy2 qm2 qd2,.bool qb3,.slice qx3 qn3 qk3,.slice qy3 qm3 qd3,.bool qb4,.slice qx4 qn4 qk4,.slice qy4 qm4 qd4]) qp qa qs qc:=⟨_,_,_,_,_,_,_,_,_,_,_,_,_,_,_,_,_,_,_,_,_,_,_,_,_,_,_,_,rfl,hr1,hr2,hr3,hr4⟩
 refine gs2 (nt:=14) Tryz.func156 rfl rfl rfl fun a st hF=>wq<|bx st hF 0 rfl rfl fun g2 w1 a st hF=>?_
 obtain⟨r3,rfl⟩:=Rq.fo h2
 refine bx st hF 2 rfl rfl fun g3 w2 a st hF=>S.alloc st hF aa rfl rfl fun g4 w4 a st hF=>ns<|gz2 9 aF st hF aa 0 0 [5,6,7,8,9,10,11,12,13] [_,_,_,_,_,_,_,_,_] (by decide+kernel) rfl rfl rfl ⟨rb st aa 1 1 rfl,rfd 2 (fun _=>zf (p:=0) rfl) rfl,rld rfl fun _ hb=>(fP (vs:=[.bool qb1,.slice qx1 qn1 qk1,.slice qy1 qm1 qd1]) ((st.b 2 rfl rfl).below hb) rfl rfl),ck st yJ rfl fun _ s=>uS ⟨(h2.below s.bel),hl⟩ ⟨(hr1.below s.bel),lqp⟩,rb st iA 2 2 rfl,rb st aa 1 1 rfl,ck st FX rfl fun _ s=>aw (BF _ _ qp qa qs qc (qt) k _ (hT.below s.bel) (ho.below s.bel) (h2.below s.bel) lqp lqa lqs lqc hl (by omega)) (tC hl lqa lqs lqc),ck st k35 rfl fun _ s _ x8 _ x11=>er x8 x11,ck st uG rfl fun _ s _ x12=>aw (gS _ ((mof (qt) (qp))-(eqv (qt) qa qs qc)) ((k+2+5)+(2*k+2*2+2*2+2+60)+1) _ x12.1 x12.2 (by omega)) (dv x12.2),trivial⟩ fun r8 w9 a st hF=>nr ?_
 refine rs Tryz.results156 st hF 1 0 aa rfl rfl rfl ?_
 exact⟨_,rfl,(st.f 0 rfl).1,st.bel⟩
theorem kl (v1:Value) (qt:Rat) (k:Nat) (w:World) (hT:a6 w) (h1:Rq w v1 qt) (hl:ag qt k) (hk:k<=100):
 CQ 85 #[v1] w (bp qt):=by
 refine gs1 (nt:=6) Tryz.func85 rfl rfl rfl fun a st hF=>wq ?_
 obtain⟨r2,rfl⟩:=Rq.fo h1
 refine bx st hF 0 rfl rfl fun g1 w1 a st hF=>S.alloc st hF aa rfl rfl fun g2 w3 a st hF=>ns<|gz2 3 aF st hF aa 0 0 [3,4,5] [.of (fun w v=>Orb w v pyr pay ssz sch) (fun _ _ _ h hb=>h.below hb),_,_] (by decide+kernel) rfl rfl rfl ⟨ck st FY rfl fun _ s=>iY (qe _),rb st aa 1 1 rfl,ck st Dn rfl fun _ s _ x3=>aw (um _ _ pyr pay ssz sch (qt) k _ (hT.below s.bel) x3 (h1.below s.bel) oI l7 ub tL hl (by omega)) (fW hl),trivial⟩ fun r7 w8 a st hF=>nr<|rs Tryz.results85 st hF 1 0 aa rfl rfl rfl ?_
 exact⟨_,rfl,(st.f 0 rfl).1,st.bel⟩
theorem pI (v1:Value) (qt:Rat) (k:Nat) (w:World) (hT:a6 w) (h1:Rq w v1 qt) (hl:ag qt k) (hk:k<=100):
 CQ 152 #[v1] w (bK qt):=by
 refine gs1 (nt:=6) Tryz.func152 rfl rfl rfl fun a st hF=>wq ?_
 obtain⟨r2,rfl⟩:=Rq.fo h1
 refine bx st hF 0 rfl rfl fun g1 w1 a st hF=>S.alloc st hF aa rfl rfl fun g2 w3 a st hF=>ns<|gz2 3 aF st hF aa 0 0 [3,4,5] [.of (fun w v=>Orb w v pmo pam msz mch) (fun _ _ _ h hb=>h.below hb),_,_] (by decide+kernel) rfl rfl rfl ⟨ck st FL rfl fun _ s=>iY (oQ _),rb st aa 1 1 rfl,ck st Dn rfl fun _ s _ x3=>aw (um _ _ pmo pam msz mch (qt) k _ (hT.below s.bel) x3 (h1.below s.bel) oB oj uh uv hl (by omega)) (i7 hl),trivial⟩ fun r7 w8 a st hF=>nr<|rs Tryz.results152 st hF 1 0 aa rfl rfl rfl ?_
 exact⟨_,rfl,(st.f 0 rfl).1,st.bel⟩
theorem uY (v1:Value) (qt:Rat) (k:Nat) (w:World) (hT:a6 w) (h1:Rq w v1 qt) (hl:ag qt k) (hk:k<=100):
 CQ 151 #[v1] w (bM qt):=by
 refine gs1 (nt:=9) Tryz.func151 rfl rfl rfl fun a st hF=>wq ?_
 obtain⟨r2,rfl⟩:=Rq.fo h1
 refine bx st hF 0 rfl rfl fun g1 w1 a st hF=>S.alloc st hF aa rfl rfl fun g2 w3 a st hF=>ns<|gz2 6 aF st hF aa 0 0 [3,4,5,6,7,8] [_,_,_,_,_,_] (by decide+kernel) rfl rfl rfl ⟨rb st aa 1 1 rfl,ck st El rfl fun _ s=>aw (pI _ (qt) k _ (hT.below s.bel) (h1.below s.bel) hl (by omega)) (i7 hl),rb st aa 1 1 rfl,ck st k85 rfl fun _ s=>aw (kl _ (qt) k _ (hT.below s.bel) (h1.below s.bel) hl (by omega)) (fW hl),ck st k35 rfl fun _ s _ x4 _ x6=>er x4 x6,ck st uG rfl fun _ s _ x7=>aw (gS _ ((bK (qt))-(bp (qt))) ((3*k+100)+(3*k+100)+1) _ x7.1 x7.2 (by omega)) (dv x7.2),trivial⟩ fun r7 w8 a st hF=>nr<|rs Tryz.results151 st hF 1 0 aa rfl rfl rfl ?_
 exact⟨_,rfl,(st.f 0 rfl).1,st.bel⟩
theorem eZ (v1:Value) (qt:Rat) (k:Nat) (n:Int) (w:World) (h1:Rq w v1 qt) (hl:ag qt k) (hk:k<=1000) (hn:0<n) (hn2:n<=1000) (h0:0<=qt) (h3:qt<((360:Int):Rat)):
 CV 84 #[v1,iv n] w (iv (prt qt n)):=by
 refine gs2 (nt:=16) Tryz.func84 rfl rfl rfl fun a st hF=>wq ?_
 obtain⟨r2,rfl⟩:=Rq.fo h1
 refine bx st hF 0 rfl rfl fun g2 w1 a st hF=>?_
 refine oC hF rfl fun a hF=>ns ?_
 refine E.rg 10 aF hF [8,9,10,11,12,7,13,14,5,6] [_,_,_,_,_,.ex (.tuple #[iv (ft (Rat.floor ((qt)*(((n:Int):Rat)/((360:Int):Rat))))),.bool (fJ (Rat.floor ((qt)*(((n:Int):Rat)/((360:Int):Rat)))))]),.ex (iv (ft (Rat.floor ((qt)*(((n:Int):Rat)/((360:Int):Rat)))))),.ex (.bool (fJ (Rat.floor ((qt)*(((n:Int):Rat)/((360:Int):Rat)))))),.ex (iv (ft (Rat.floor ((qt)*(((n:Int):Rat)/((360:Int):Rat)))))),.ex (.bool (fJ (Rat.floor ((qt)*(((n:Int):Rat)/((360:Int):Rat))))))] (by decide+kernel) rfl rfl rfl ⟨rb st aa 1 0 rfl,rm 3 rfl,ck st k36 rfl fun _ s=>cG,ck st cj rfl fun _ s _ x10=>cx ⟨(h1.below s.bel),hl⟩ x10,ck st zQ rfl fun _ s _ x11=>bv (lI _ ((qt)*(((n:Int):Rat)/((360:Int):Rat))) (k+2) _ x11.1 x11.2 (by omega)),(by intro a' w' hF' hb hd;have e12:=tE hd 0 rfl;exact dv0 (aI e12) rfl rfl rfl),(by intro a' w' hF' hb hd;have e7:=tE hd 0 rfl;exact dv0 (aC (v:= iv (ft (Rat.floor ((qt)*(((n:Int):Rat)/((360:Int):Rat)))))) e7 rfl) rfl rfl rfl),(by intro a' w' hF' hb hd;have e7:=tE hd 0 rfl;exact dv0 (aC (v:= .bool (fJ (Rat.floor ((qt)*(((n:Int):Rat)/((360:Int):Rat)))))) e7 rfl) rfl rfl rfl),(by intro a' w' hF' hb hd;have e13:=tE hd 0 rfl;exact dv0 (bf e13) rfl rfl rfl),(by intro a' w' hF' hb hd;have e14:=tE hd 0 rfl;exact dv0 (bf e14) rfl rfl rfl),trivial⟩ ?_
 intro a w3 hF bb hall
 replace st:=st.to bb
 replace hF:=rE hall hF 8 rfl rfl
 clear hall bb
 refine nq ?_
 refine oM hF 0 rfl rfl fun a hF=>oE hF 0 rfl rfl fun a hF=>nr ?_
 have bel:=st.bel
 refine rt Tryz.results84 hF 0 rfl ?_
 exact⟨bS (Eb hn hn2 h0 h3),bel⟩
theorem pT (v1:Value) (qt:Rat) (k:Nat) (w:World) (hT:a6 w) (h1:Rq w v1 qt) (hl:ag qt k) (hk:k<=100):
 CV 34 #[v1] w (iv (prt (bp qt) 12)):=by
 refine gs1 (nt:=6) Tryz.func34 rfl rfl rfl fun a st hF=>wq ?_
 obtain⟨r2,rfl⟩:=Rq.fo h1
 refine bx st hF 0 rfl rfl fun g1 w1 a st hF=>?_
 refine oC hF rfl fun a hF=>nq<|oL hF st 1 0 aa rfl rfl rfl rfl fun a hF=>S.ck st hF (rgc k85 (aB hF.o)) (aw (kl _ (qt) k _ (hT.below st.bel) (h1.below st.bel) hl (by omega)) (fW hl)) Rl.cl rfl fun vv4 w3 a st hF=>?_
 obtain⟨r6,rfl⟩:=Rq.fo (st.f 0 rfl).1
 refine cX st hF (rgc k84 (aA hF.o ah)) (eZ _ _ (3*k+100) 12 _ (st.f 0 rfl).1 (st.f 0 rfl).2 (by omega) (by omega) (by omega) (kL _) (jd _)) rfl fun w7 a st hF=>?_
 have hpt84914:=dz (x:=bp (qt)) (n:=12) (by omega) (kL _) (jd _)
 refine oE hF 0 rfl rfl fun a hF=>nr ?_
 have bel:=st.bel
 refine rt Tryz.results34 hF 0 rfl ?_
 exact⟨rfl,bel⟩
theorem nS (v1:Value) (qt:Rat) (k:Nat) (w:World) (hT:a6 w) (h1:Rq w v1 qt) (hl:ag qt k) (hk:k<=100):
 CV 80 #[v1] w (iv (prt (bM qt) 30+1)):=by
 refine gs1 (nt:=7) Tryz.func80 rfl rfl rfl fun a st hF=>wq ?_
 obtain⟨r2,rfl⟩:=Rq.fo h1
 refine bx st hF 0 rfl rfl fun g1 w1 a st hF=>?_
 refine oC hF rfl fun a hF=>nq<|oL hF st 1 0 aa rfl rfl rfl rfl fun a hF=>S.ck st hF (rgc FZ (aB hF.o)) (aw (uY _ (qt) k _ (hT.below st.bel) (h1.below st.bel) hl (by omega)) (vk hl)) Rl.cl rfl fun vv4 w3 a st hF=>?_
 obtain⟨r6,rfl⟩:=Rq.fo (st.f 0 rfl).1
 refine cX st hF (rgc k84 (aA hF.o ah)) (eZ _ _ (6*k+210) 30 _ (st.f 0 rfl).1 (st.f 0 rfl).2 (by omega) (by omega) (by omega) (gw _) (fO _)) rfl fun w7 a st hF=>?_
 have hpt36666:=dz (x:=bM (qt)) (n:=30) (by omega) (gw _) (fO _)
 refine oV hF (ar hF.o ah ab (bl (by omega) (by omega))) rfl fun a hF=>oE hF 0 rfl rfl fun a hF=>nr ?_
 have bel:=st.bel
 refine rt Tryz.results80 hF 0 rfl ?_
 exact⟨rfl,bel⟩
theorem lC (v1:Value) (qt:Rat) (k:Nat) (w:World) (hT:a6 w) (h1:Rq w v1 qt) (hl:ag qt k) (hk:k<=100):
 CV 81 #[v1] w (.agg #[iv (prt (bp qt) 12),iv (prt (bM qt) 30+1),iv (prt (bK qt) 27+1),iv (prt (uO qt) 27+1),iv (prt (bM qt) 60+1)]):=by
 refine gs1 (nt:=32) Tryz.func81 rfl rfl rfl fun a st hF=>wq ?_
 obtain⟨r2,rfl⟩:=Rq.fo h1
 refine bx st hF 0 rfl rfl fun g1 w1 a st hF=>S.alloc st hF pu rfl rfl fun g2 w3 a st hF=>ns ?_
 refine E.rga 6 aF hF [6,7,8,9,3,4] [_,_,_,_,kn w3 [.bool false,.slice none 0 0,.slice none 0 0],kn w3 [.bool false,.slice none 0 0,.slice none 0 0]] [4,5] ⟨fun _ _ ⟨g,e,_,o⟩=>⟨g,e,o.lt⟩,⟨fun _ _ ⟨g,e,_,o⟩=>⟨g,e,o.lt⟩,trivial⟩⟩ (by decide+kernel) rfl rfl rfl ⟨rb st aa 1 1 rfl,ck st k85 rfl fun _ s=>aw (kl _ (qt) k _ (hT.below s.bel) (h1.below s.bel) hl (by omega)) (fW hl),rb st aa 1 1 rfl,ck st El rfl fun _ s=>aw (pI _ (qt) k _ (hT.below s.bel) (h1.below s.bel) hl (by omega)) (i7 hl),ra aa rfl rfl,ra aa rfl rfl,trivial⟩ ?_
 intro a w4 hF bb hall hne
 have s0:=st
 replace st:=st.to bb
 obtain⟨vv5,hF,st⟩:=rS hall hF st 1 rfl rfl Rl.cl
 obtain⟨r7,rfl⟩:=Rq.fo (st.f 0 rfl).1
 obtain⟨vv8,hF,st⟩:=rS hall hF st 3 rfl rfl Rl.cl
 obtain⟨r10,rfl⟩:=Rq.fo (st.f 0 rfl).1
 obtain⟨_,e3,g3,rfl,ge3,o3⟩:=sS hall 4 3 rfl rfl
 replace st:=st.push o3.blk (Nat.le_trans s0.bel.size ge3) (s0.ne ge3)
 clear o3
 replace hF:=hF.add e3
 obtain⟨_,e4,g4,rfl,ge4,o4⟩:=sS hall 5 4 rfl rfl
 replace st:=st.push o4.blk (Nat.le_trans s0.bel.size ge4) (fB (fun(e:g3=g4)=>hne 4 5 3 4 rfl rfl (by decide) rfl rfl (by rw[e3,e4,e])) (s0.ne ge4))
 clear o4
 replace hF:=hF.add e4
 clear hall bb hne s0
 refine so st hF 1 1 3 aa rfl rfl rfl rfl fun w11 a st hF=>so st hF 0 0 2 aa rfl rfl rfl rfl fun w12 a st hF=>nq<|oL hF st 0 0 aa rfl rfl rfl rfl fun a hF=>oL hF st 2 1 aa rfl rfl rfl rfl fun a hF=>S.ck st hF (rgc k35 (aA hF.p hF.o)) (er (st.f 0 rfl) (st.f 1 rfl)) Rl.cl rfl fun vv14 w13 a st hF=>?_
 obtain⟨r16,rfl⟩:=Rq.fo (st.f 0 rfl).1
 refine S.ck st hF (rgc uG (aB hF.o)) (aw (gS _ _ ((3*k+100)+(3*k+100)+1) _ (st.f 0 rfl).1 (st.f 0 rfl).2 (by omega)) (dv (st.f 0 rfl).2)) Rl.cl rfl fun vv18 w17 a st hF=>?_
 obtain⟨r20,rfl⟩:=Rq.fo (st.f 0 rfl).1
 refine S.new st hF 0 rfl aa rfl rfl rfl rfl rfl fun g5 w21 a st hF=>ns ?_
 refine E.rg 18 aF hF [14,15,16,17,18,19,20,21,22,23,24,25,26,27,28,29,30,31] [_,_,_,_,.ex (iv ((prt (rmod ((bK (qt))-(bp (qt))) ((360:Int):Rat)) 30)+1)),_,_,.ex (iv ((prt (bK (qt)) 27)+1)),_,_,_,_,_,.ex (iv ((prt (rmod ((bK (qt))+(bp (qt))) ((360:Int):Rat)) 27)+1)),_,_,.ex (iv ((prt (rmod ((bK (qt))-(bp (qt))) ((360:Int):Rat)) 60)+1)),.ex (.agg #[iv (prt (bp (qt)) 12),iv ((prt (rmod ((bK (qt))-(bp (qt))) ((360:Int):Rat)) 30)+1),iv ((prt (bK (qt)) 27)+1),iv ((prt (rmod ((bK (qt))+(bp (qt))) ((360:Int):Rat)) 27)+1),iv ((prt (rmod ((bK (qt))-(bp (qt))) ((360:Int):Rat)) 60)+1)])] (by decide+kernel) rfl rfl rfl ⟨rb st aa 6 2 rfl,ck st k84 rfl fun _ s=>bv (eZ _ (bp (qt)) (3*k+100) 12 _ (s.f 3 rfl).1 (s.f 3 rfl).2 (by omega) (by omega) (by omega) (kL _) (jd _)),rb st aa 0 0 rfl,ck st k84 rfl fun _ s=>bv (eZ _ (rmod ((bK (qt))-(bp (qt))) ((360:Int):Rat)) (((3*k+100)+(3*k+100)+1)+4) 30 _ (s.f 0 rfl).1 (s.f 0 rfl).2 (by omega) (by omega) (by omega) (cn aN) (bV aN)),(by intro a' w' hF' hb hd;have e17:=tE hd 0 rfl;have hpt23511:=dz (x:=rmod ((bK (qt))-(bp (qt))) ((360:Int):Rat)) (n:=30) (by omega) (cn aN) (bV aN);exact dv0 (ar e17 ah ab (bl (by omega) (by omega))) rfl rfl rfl),rb st aa 5 1 rfl,ck st k84 rfl fun _ s=>bv (eZ _ (bK (qt)) (3*k+100) 27 _ (s.f 2 rfl).1 (s.f 2 rfl).2 (by omega) (by omega) (by omega) (k8 _) (jZ _)),(by intro a' w' hF' hb hd;have e20:=tE hd 0 rfl;have hpt55199:=dz (x:=bK (qt)) (n:=27) (by omega) (k8 _) (jZ _);exact dv0 (ar e20 ah ab (bl (by omega) (by omega))) rfl rfl rfl),rb st aa 5 1 rfl,rb st aa 6 2 rfl,ck st k76 rfl fun _ s=>jW (s.f 2 rfl) (s.f 3 rfl),ck st uG rfl fun _ s _ x24=>aw (gS _ ((bK (qt))+(bp (qt))) ((3*k+100)+(3*k+100)+1) _ x24.1 x24.2 (by omega)) (dv x24.2),ck st k84 rfl fun _ s _ x25=>bv (eZ _ (rmod ((bK (qt))+(bp (qt))) ((360:Int):Rat)) (((3*k+100)+(3*k+100)+1)+4) 27 _ x25.1 x25.2 (by omega) (by omega) (by omega) (cn aN) (bV aN)),(by intro a' w' hF' hb hd;have e26:=tE hd 0 rfl;have hpt32612:=dz (x:=rmod ((bK (qt))+(bp (qt))) ((360:Int):Rat)) (n:=27) (by omega) (cn aN) (bV aN);exact dv0 (ar e26 ah ab (bl (by omega) (by omega))) rfl rfl rfl),rb st aa 0 0 rfl,ck st k84 rfl fun _ s=>bv (eZ _ (rmod ((bK (qt))-(bp (qt))) ((360:Int):Rat)) (((3*k+100)+(3*k+100)+1)+4) 60 _ (s.f 0 rfl).1 (s.f 0 rfl).2 (by omega) (by omega) (by omega) (cn aN) (bV aN)),(by intro a' w' hF' hb hd;have e29:=tE hd 0 rfl;have hpt15890:=dz (x:=rmod ((bK (qt))-(bp (qt))) ((360:Int):Rat)) (n:=60) (by omega) (cn aN) (bV aN);exact dv0 (ar e29 ah ab (bl (by omega) (by omega))) rfl rfl rfl),(by intro a' w' hF' hb hd;have e15:=tE hd 0 rfl;have hpt84914:=dz (x:=bp (qt)) (n:=12) (by omega) (kL _) (jd _);have e18:=tE hd 1 rfl;have e21:=tE hd 2 rfl;have e27:=tE hd 3 rfl;have e30:=tE hd 4 rfl;exact dv0 (a7 (uC e15 e18 e21 e27 e30) (p9 _ _ _ _ _ _)) rfl rfl rfl),trivial⟩ ?_
 intro a w22 hF bb hall
 replace st:=st.to bb
 replace hF:=rE hall hF 17 rfl rfl
 clear hall bb
 refine S.stoI st hF 3 rfl (hF.at 10 rfl) hF.o pu rfl rfl rfl fun w23 a st hF=>nr<|rs Tryz.results81 st hF 10 3 pu rfl rfl rfl ?_
 exact⟨rfl,st.bel⟩
theorem C8 {v1:Value} {p1:Rat} {k1:Nat} {w:World} (hT:a6 w) (x1:Rl p1 k1 w v1) (a1:k1<=100:=by omega):CP 85 #[v1] w (Ret (kq (bp (p1)) ((3*k1+100))) w):=aw (kl _ (p1) k1 _ hT x1.1 x1.2 (by omega)) (fW x1.2)
end Go.Proofs.YtgdpkknapcgcbaaGreatDoor
