import Derived.Test.YtdbiegfmgabicaaGreatDoorKA32
namespace Go.Proofs.YtdbiegfmgabicaaGreatDoor
open Go.RowKit
set_option maxRecDepth 100000
set_option linter.unusedVariables false
set_option maxHeartbeats 8000000
theorem KN {x:Rat} {n:Int} (hn:0<n) (hn2:n≤1000) (h0:0≤x) (h1:x<((360:Int):Rat)):gX (Rat.floor (x*(((n:Int):Rat)/((360:Int):Rat))))=prt x n:=by
 have:=gW hn h0 h1
 exact lj (show _≤prt x n by omega) (show prt x n≤_ by omega)
theorem uk (w:World):
 Calls Tryz.prog 163 #[] w (yT w pyr pay ssz sch):=by
 have st:=St.start w
 refine go0 (nt:=6) Tryz.func163 rfl rfl fun a hF=>?_
 refine wq ?_
 refine S.alloc st hF lq rfl rfl fun g0 w1 a st hF=>?_
 refine nq ?_
 refine S.ck st hF (rgc wK ir) (mh) Rl.cl rfl fun vv3 w2 a st hF=>?_
 obtain⟨r5,rfl⟩:=Rq.fo (st.f 0 rfl).1
 refine S.ck st hF (rgc Ky ir) (mE) Rl.cl rfl fun vv7 w6 a st hF=>?_
 obtain⟨r9,rfl⟩:=Rq.fo (st.f 0 rfl).1
 refine S.ck st hF (rgc k48 (aI ar ar)) (aB (bz (14) (360) _ (by decide) (by decide) (by decide) (by decide)) (ah.up (aK (ao (by decide) (by decide)) (ao (by decide) (by decide))) 2 (by decide))) Rl.cl rfl fun vv11 w10 a st hF=>?_
 obtain⟨r13,rfl⟩:=Rq.fo (st.f 0 rfl).1
 refine S.ck st hF (rgc k48 (aI ar ar)) (aB (bz (1) (42) _ (by decide) (by decide) (by decide) (by decide)) (ah.up (aK (ao (by decide) (by decide)) (ao (by decide) (by decide))) 2 (by decide))) Rl.cl rfl fun vv15 w14 a st hF=>?_
 obtain⟨r17,rfl⟩:=Rq.fo (st.f 0 rfl).1
 refine oV hF (bh (pi (hF.at 3 rfl) hF.q hF.p hF.o) (qf _ _ _ _ _ _ _ _ _ _ _ _ _ _ _ _ _ _ _ _ _ _ _ _ _ _ _ _ _)) rfl fun a hF=>?_
 refine so st hF 0 5 0 lq rfl rfl rfl rfl fun w18 a st hF=>?_
 refine nr ?_
 refine rs Tryz.results163 st hF 5 0 lq rfl rfl rfl ?_
 have bel:=st.bel
 exact⟨_,rfl,⟨_,_,_,_,_,_,_,_,_,_,_,_,_,_,_,_,_,_,_,_,_,_,_,_,_,_,_,_,rfl,(st.f 3 rfl).1,(st.f 2 rfl).1,(st.f 1 rfl).1,(st.f 0 rfl).1⟩,bel⟩
theorem sx (w:World):
 Calls Tryz.prog 179 #[] w (yT w pmo pam msz mch):=by
 have st:=St.start w
 refine go0 (nt:=6) Tryz.func179 rfl rfl fun a hF=>?_
 refine wq ?_
 refine S.alloc st hF lq rfl rfl fun g0 w1 a st hF=>?_
 refine nq ?_
 refine S.ck st hF (rgc OP ir) (F7) Rl.cl rfl fun vv3 w2 a st hF=>?_
 obtain⟨r5,rfl⟩:=Rq.fo (st.f 0 rfl).1
 refine S.ck st hF (rgc NI ir) (rO) Rl.cl rfl fun vv7 w6 a st hF=>?_
 obtain⟨r9,rfl⟩:=Rq.fo (st.f 0 rfl).1
 refine S.ck st hF (rgc k48 (aI ar ar)) (aB (bz (32) (360) _ (by decide) (by decide) (by decide) (by decide)) (ah.up (aK (ao (by decide) (by decide)) (ao (by decide) (by decide))) 2 (by decide))) Rl.cl rfl fun vv11 w10 a st hF=>?_
 obtain⟨r13,rfl⟩:=Rq.fo (st.f 0 rfl).1
 refine S.ck st hF (rgc k48 (aI ar ar)) (aB (bz (1) (96) _ (by decide) (by decide) (by decide) (by decide)) (ah.up (aK (ao (by decide) (by decide)) (ao (by decide) (by decide))) 2 (by decide))) Rl.cl rfl fun vv15 w14 a st hF=>?_
 obtain⟨r17,rfl⟩:=Rq.fo (st.f 0 rfl).1
 refine oV hF (bh (pi (hF.at 3 rfl) hF.q hF.p hF.o) (qf _ _ _ _ _ _ _ _ _ _ _ _ _ _ _ _ _ _ _ _ _ _ _ _ _ _ _ _ _)) rfl fun a hF=>?_
 refine so st hF 0 5 0 lq rfl rfl rfl rfl fun w18 a st hF=>?_
 refine nr ?_
 refine rs Tryz.results179 st hF 5 0 lq rfl rfl rfl ?_
 have bel:=st.bel
 exact⟨_,rfl,⟨_,_,_,_,_,_,_,_,_,_,_,_,_,_,_,_,_,_,_,_,_,_,_,_,_,_,_,_,rfl,(st.f 3 rfl).1,(st.f 2 rfl).1,(st.f 1 rfl).1,(st.f 0 rfl).1⟩,bel⟩
theorem Il (v1 v2:Value) (qp qa qs qc qt:Rat) (k:Nat) (w:World) (hT:bG w) (ho:Orb w v1 qp qa qs qc) (h2:Rq w v2 qt) (lqp:ah qp 2) (lqa:ah qa 2) (lqs:ah qs 2) (lqc:ah qc 2) (hl:ah qt k) (hk:k≤100):
 Calls Tryz.prog 209 #[v1,v2] w (bl w (eqv qt qa qs qc)):=by
 obtain⟨qb1,qx1,qn1,qk1,qy1,qm1,qd1,qb2,qx2,qn2,qk2,qy2,qm2,qd2,qb3,qx3,qn3,qk3,qy3,qm3,qd3,qb4,qx4,qn4,qk4,qy4,qm4,qd4,rfl,hr1,hr2,hr3,hr4⟩:=ho
 have ho:Orb w (.agg #[.bool qb1,.slice qx1 qn1 qk1,.slice qy1 qm1 qd1,.bool qb2,.slice qx2 qn2 qk2,.slice qy2 qm2 qd2,.bool qb3,.slice qx3 qn3 qk3,.slice qy3 qm3 qd3,.bool qb4,.slice qx4 qn4 qk4,.slice qy4 qm4 qd4]) qp qa qs qc:=⟨_,_,_,_,_,_,_,_,_,_,_,_,_,_,_,_,_,_,_,_,_,_,_,_,_,_,_,_,rfl,hr1,hr2,hr3,hr4⟩
 have st:=St.start w
 refine go2 (nt:=27) Tryz.func209 rfl rfl rfl fun a hF=>?_
 refine wq ?_
 refine bx st hF 0 rfl rfl fun g2 w1 a st hF=>?_
 obtain⟨r3,rfl⟩:=Rq.fo h2
 refine bx st hF 2 rfl rfl fun g3 w2 a st hF=>?_
 refine S.alloc st hF aa rfl rfl fun g4 w4 a st hF=>?_
 refine nq ?_
 refine oL hF st 1 1 aa rfl rfl rfl rfl fun a hF=>oV hF (av (hF.at 3 rfl) (F0 (p:=3) rfl)) rfl fun a hF=>oV hF (au hF.o (fU (vs:=[.bool qb2,.slice qx2 qn2 qk2,.slice qy2 qm2 qd2]) (st.b 2 rfl rfl) rfl rfl)) rfl fun a hF=>?_
 refine S.ck st hF (rgc D5 (aI hF.q hF.o)) (zW ⟨(h2.below st.bel),hl⟩ ⟨(hr2.below st.bel),lqa⟩) Rl.cl rfl fun vv6 w5 a st hF=>?_
 obtain⟨r8,rfl⟩:=Rq.fo (st.f 0 rfl).1
 refine S.ck st hF (rgc sW (aD hF.o)) (qOf (hT.below st.bel) (st.f 0 rfl)) Rl.cl rfl fun vv10 w9 a st hF=>?_
 obtain⟨r12,rfl⟩:=Rq.fo (st.f 0 rfl).1
 refine S.new st hF 0 rfl aa rfl rfl rfl rfl rfl fun g5 w13 a st hF=>?_
 refine ns ?_
 refine E.rga 9 aF hF [12,13,14,15,16,17,18,19,6] [_,_,_,.ex (.agg #[.bool qb4,.slice qx4 qn4 qk4,.slice qy4 qm4 qd4]),_,_,.ex (.agg #[.bool qb3,.slice qx3 qn3 qk3,.slice qy3 qm3 qd3]),_,kn w13 [.bool false,.slice none 0 0,.slice none 0 0]] [8] ⟨fun _ _ ⟨g,e,_,o⟩=>⟨g,e,o.lt⟩,trivial⟩ (by decide+kernel) rfl rfl rfl ⟨rb st aa 0 0 rfl,ck st Fv rfl fun _ s=>E5 (s.f 0 rfl),rd rfl rfl fun a' w' hF' hb=>(av (hF'.at 8 rfl) (EJ (p:=9) rfl)),(by intro a' w' hF' hb hd;have e14:=tE hd 0 rfl;exact dv0 (au e14 (fU (vs:=[.bool qb4,.slice qx4 qn4 qk4,.slice qy4 qm4 qd4]) ((st.b 3 rfl rfl).below hb) rfl rfl)) rfl rfl rfl),ck st k82 rfl fun _ s _ x13=>de x13 ⟨(hr4.below s.bel),lqc⟩,rd rfl rfl fun a' w' hF' hb=>(av (hF'.at 8 rfl) (uS (p:=6) rfl)),(by intro a' w' hF' hb hd;have e17:=tE hd 0 rfl;exact dv0 (au e17 (fU (vs:=[.bool qb3,.slice qx3 qn3 qk3,.slice qy3 qm3 qd3]) ((st.b 3 rfl rfl).below hb) rfl rfl)) rfl rfl rfl),ck st k82 rfl fun _ s _ x16=>de x16 ⟨(hr3.below s.bel),lqs⟩,ra aa rfl rfl,trivial⟩ ?_
 intro a w14 hF bb hall hne
 have s0:=st
 replace st:=st.to bb
 obtain⟨vv15,hF,st⟩:=rS hall hF st 7 rfl rfl Rl.cl
 obtain⟨r17,rfl⟩:=Rq.fo (st.f 0 rfl).1
 obtain⟨_,e6,g6,rfl,ge6,o6⟩:=sS hall 8 6 rfl rfl
 replace st:=st.push o6.blk (Nat.le_trans s0.bel.size ge6) (s0.ne ge6)
 clear o6
 replace hF:=hF.add e6
 clear hall bb hne s0
 refine so st hF 0 0 1 aa rfl rfl rfl rfl fun w18 a st hF=>?_
 refine ns ?_
 refine E.rg 7 aF hF [20,21,22,23,24,25,26] [_,_,.ex (.agg #[.bool qb3,.slice qx3 qn3 qk3,.slice qy3 qm3 qd3]),_,_,_,_] (by decide+kernel) rfl rfl rfl ⟨rb st aa 2 1 rfl,rd rfl rfl fun a' w' hF' hb=>(av (hF'.at 10 rfl) (uS (p:=6) rfl)),(by intro a' w' hF' hb hd;have e21:=tE hd 0 rfl;exact dv0 (au e21 (fU (vs:=[.bool qb3,.slice qx3 qn3 qk3,.slice qy3 qm3 qd3]) ((st.b 4 rfl rfl).below hb) rfl rfl)) rfl rfl rfl),rb st aa 0 0 rfl,ck st k27 rfl fun _ s=>eQ ⟨(hr3.below s.bel),lqs⟩ (s.f 0 rfl),ck st k82 rfl fun _ s _ x24=>de (s.f 1 rfl) x24,ck st Ae rfl fun _ s _ x25=>Ea (hT.below s.bel) x25,trivial⟩ ?_
 intro a w19 hF bb hall
 replace st:=st.to bb
 obtain⟨vv20,hF,st⟩:=rS hall hF st 6 rfl rfl Rl.cl
 obtain⟨r22,rfl⟩:=Rq.fo (st.f 0 rfl).1
 clear hall bb
 refine so st hF 2 9 0 aa rfl rfl rfl rfl fun w23 a st hF=>?_
 refine nr ?_
 refine rs Tryz.results209 st hF 9 2 aa rfl rfl rfl ?_
 have bel:=st.bel
 exact⟨_,rfl,(st.f 0 rfl).1,bel⟩
theorem p7 (v1:Value) (qt:Rat) (k:Nat) (w:World) (h1:Rq w v1 qt) (hl:ah qt k) (hk:k≤1000):
 Calls Tryz.prog 128 #[v1] w (bl w (rmod qt ((360:Int):Rat))):=by
 have st:=St.start w
 refine go1 (nt:=6) Tryz.func128 rfl rfl rfl fun a hF=>?_
 refine wq ?_
 obtain⟨r2,rfl⟩:=Rq.fo h1
 refine bx st hF 0 rfl rfl fun g1 w1 a st hF=>?_
 refine S.alloc st hF aa rfl rfl fun g2 w3 a st hF=>?_
 refine ns ?_
 refine E.rg 3 aF hF [3,4,5] [_,_,_] (by decide+kernel) rfl rfl rfl ⟨rb st aa 1 1 rfl,ck st k30 rfl fun _ s=>aB (a7 (360) _ (by decide) (by decide)) (aW (ao (by decide) (by decide)) (by omega)),ck st zO rfl fun _ s _ x4=>GB ⟨(h1.below s.bel),hl⟩ x4,trivial⟩ ?_
 intro a w4 hF bb hall
 replace st:=st.to bb
 obtain⟨vv5,hF,st⟩:=rS hall hF st 2 rfl rfl Rl.cl
 obtain⟨r7,rfl⟩:=Rq.fo (st.f 0 rfl).1
 clear hall bb
 refine so st hF 0 1 0 aa rfl rfl rfl rfl fun w8 a st hF=>?_
 refine nr ?_
 refine rs Tryz.results128 st hF 1 0 aa rfl rfl rfl ?_
 have bel:=st.bel
 exact⟨_,rfl,(st.f 0 rfl).1,bel⟩
theorem yw (v1 v2:Value) (qp qa qs qc qt:Rat) (k:Nat) (w:World) (hT:bG w) (ho:Orb w v1 qp qa qs qc) (h2:Rq w v2 qt) (lqp:ah qp 2) (lqa:ah qa 2) (lqs:ah qs 2) (lqc:ah qc 2) (hl:ah qt k) (hk:k≤100):
 Calls Tryz.prog 164 #[v1,v2] w (bl w (atv qt qp qa qs qc)):=by
 obtain⟨qb1,qx1,qn1,qk1,qy1,qm1,qd1,qb2,qx2,qn2,qk2,qy2,qm2,qd2,qb3,qx3,qn3,qk3,qy3,qm3,qd3,qb4,qx4,qn4,qk4,qy4,qm4,qd4,rfl,hr1,hr2,hr3,hr4⟩:=ho
 have ho:Orb w (.agg #[.bool qb1,.slice qx1 qn1 qk1,.slice qy1 qm1 qd1,.bool qb2,.slice qx2 qn2 qk2,.slice qy2 qm2 qd2,.bool qb3,.slice qx3 qn3 qk3,.slice qy3 qm3 qd3,.bool qb4,.slice qx4 qn4 qk4,.slice qy4 qm4 qd4]) qp qa qs qc:=⟨_,_,_,_,_,_,_,_,_,_,_,_,_,_,_,_,_,_,_,_,_,_,_,_,_,_,_,_,rfl,hr1,hr2,hr3,hr4⟩
 have st:=St.start w
 refine go2 (nt:=14) Tryz.func164 rfl rfl rfl fun a hF=>?_
 refine wq ?_
 refine bx st hF 0 rfl rfl fun g2 w1 a st hF=>?_
 obtain⟨r3,rfl⟩:=Rq.fo h2
 refine bx st hF 2 rfl rfl fun g3 w2 a st hF=>?_
 refine S.alloc st hF aa rfl rfl fun g4 w4 a st hF=>?_
 refine ns ?_
 refine E.rg 9 aF hF [5,6,7,8,9,10,11,12,13] [_,_,.ex (.agg #[.bool qb1,.slice qx1 qn1 qk1,.slice qy1 qm1 qd1]),_,_,_,_,_,_] (by decide+kernel) rfl rfl rfl ⟨rb st aa 1 1 rfl,rd rfl rfl fun a' w' hF' hb=>(av (hF'.at 2 rfl) (FD (p:=0) rfl)),(by intro a' w' hF' hb hd;have e6:=tE hd 0 rfl;exact dv0 (au e6 (fU (vs:=[.bool qb1,.slice qx1 qn1 qk1,.slice qy1 qm1 qd1]) ((st.b 2 rfl rfl).below hb) rfl rfl)) rfl rfl rfl),ck st D5 rfl fun _ s=>zW ⟨(h2.below s.bel),hl⟩ ⟨(hr1.below s.bel),lqp⟩,rb st lq 2 2 rfl,rb st aa 1 1 rfl,ck st ON rfl fun _ s=>aB (Il _ _ qp qa qs qc (qt) k _ (hT.below s.bel) (ho.below s.bel) (h2.below s.bel) lqp lqa lqs lqc hl (by omega)) (yo hl lqa lqs lqc),ck st k27 rfl fun _ s _ x8 _ x11=>eQ x8 x11,ck st J0 rfl fun _ s _ x12=>aB (p7 _ ((mof (qt) (qp))-(eqv (qt) qa qs qc)) ((k+2+5)+(2*k+2*2+2*2+2+60)+1) _ x12.1 x12.2 (by omega)) (fG x12.2),trivial⟩ ?_
 intro a w5 hF bb hall
 replace st:=st.to bb
 obtain⟨vv6,hF,st⟩:=rS hall hF st 8 rfl rfl Rl.cl
 obtain⟨r8,rfl⟩:=Rq.fo (st.f 0 rfl).1
 clear hall bb
 refine so st hF 0 1 0 aa rfl rfl rfl rfl fun w9 a st hF=>?_
 refine nr ?_
 refine rs Tryz.results164 st hF 1 0 aa rfl rfl rfl ?_
 have bel:=st.bel
 exact⟨_,rfl,(st.f 0 rfl).1,bel⟩
theorem qC (v1:Value) (qt:Rat) (k:Nat) (w:World) (hT:bG w) (h1:Rq w v1 qt) (hl:ah qt k) (hk:k≤100):
 Calls Tryz.prog 110 #[v1] w (bl w (dz qt)):=by
 have st:=St.start w
 refine go1 (nt:=6) Tryz.func110 rfl rfl rfl fun a hF=>?_
 refine wq ?_
 obtain⟨r2,rfl⟩:=Rq.fo h1
 refine bx st hF 0 rfl rfl fun g1 w1 a st hF=>?_
 refine S.alloc st hF aa rfl rfl fun g2 w3 a st hF=>?_
 refine ns ?_
 refine E.rg 3 aF hF [3,4,5] [.of (fun w v=>Orb w v pyr pay ssz sch) (fun _ _ _ h hb=>h.below hb),_,_] (by decide+kernel) rfl rfl rfl ⟨ck st OE rfl fun _ s=>je (uk _),rb st aa 1 1 rfl,ck st K7 rfl fun _ s _ x3=>aB (yw _ _ pyr pay ssz sch (qt) k _ (hT.below s.bel) x3 (h1.below s.bel) mj jq yS xZ hl (by omega)) (hO hl),trivial⟩ ?_
 intro a w4 hF bb hall
 replace st:=st.to bb
 obtain⟨vv5,hF,st⟩:=rS hall hF st 2 rfl rfl Rl.cl
 obtain⟨r7,rfl⟩:=Rq.fo (st.f 0 rfl).1
 clear hall bb
 refine so st hF 0 1 0 aa rfl rfl rfl rfl fun w8 a st hF=>?_
 refine nr ?_
 refine rs Tryz.results110 st hF 1 0 aa rfl rfl rfl ?_
 have bel:=st.bel
 exact⟨_,rfl,(st.f 0 rfl).1,bel⟩
theorem C5 (v1:Value) (qt:Rat) (k:Nat) (w:World) (hT:bG w) (h1:Rq w v1 qt) (hl:ah qt k) (hk:k≤100):
 Calls Tryz.prog 129 #[v1] w (bl w (ng qt)):=by
 have st:=St.start w
 refine go1 (nt:=6) Tryz.func129 rfl rfl rfl fun a hF=>?_
 refine wq ?_
 obtain⟨r2,rfl⟩:=Rq.fo h1
 refine bx st hF 0 rfl rfl fun g1 w1 a st hF=>?_
 refine S.alloc st hF aa rfl rfl fun g2 w3 a st hF=>?_
 refine ns ?_
 refine E.rg 3 aF hF [3,4,5] [.of (fun w v=>Orb w v pmo pam msz mch) (fun _ _ _ h hb=>h.below hb),_,_] (by decide+kernel) rfl rfl rfl ⟨ck st Oh rfl fun _ s=>je (sx _),rb st aa 1 1 rfl,ck st K7 rfl fun _ s _ x3=>aB (yw _ _ pmo pam msz mch (qt) k _ (hT.below s.bel) x3 (h1.below s.bel) pg pD yi yz hl (by omega)) (lv hl),trivial⟩ ?_
 intro a w4 hF bb hall
 replace st:=st.to bb
 obtain⟨vv5,hF,st⟩:=rS hall hF st 2 rfl rfl Rl.cl
 obtain⟨r7,rfl⟩:=Rq.fo (st.f 0 rfl).1
 clear hall bb
 refine so st hF 0 1 0 aa rfl rfl rfl rfl fun w8 a st hF=>?_
 refine nr ?_
 refine rs Tryz.results129 st hF 1 0 aa rfl rfl rfl ?_
 have bel:=st.bel
 exact⟨_,rfl,(st.f 0 rfl).1,bel⟩
theorem rD (v1:Value) (qt:Rat) (k:Nat) (w:World) (hT:bG w) (h1:Rq w v1 qt) (hl:ah qt k) (hk:k≤100):
 Calls Tryz.prog 73 #[v1] w (bl w (bi qt)):=by
 have st:=St.start w
 refine go1 (nt:=9) Tryz.func73 rfl rfl rfl fun a hF=>?_
 refine wq ?_
 obtain⟨r2,rfl⟩:=Rq.fo h1
 refine bx st hF 0 rfl rfl fun g1 w1 a st hF=>?_
 refine S.alloc st hF aa rfl rfl fun g2 w3 a st hF=>?_
 refine ns ?_
 refine E.rg 6 aF hF [3,4,5,6,7,8] [_,_,_,_,_,_] (by decide+kernel) rfl rfl rfl ⟨rb st aa 1 1 rfl,ck st OM rfl fun _ s=>aB (C5 _ (qt) k _ (hT.below s.bel) (h1.below s.bel) hl (by omega)) (lv hl),rb st aa 1 1 rfl,ck st Ar rfl fun _ s=>aB (qC _ (qt) k _ (hT.below s.bel) (h1.below s.bel) hl (by omega)) (hO hl),ck st k27 rfl fun _ s _ x4 _ x6=>eQ x4 x6,ck st J0 rfl fun _ s _ x7=>aB (p7 _ ((ng (qt))-(dz (qt))) ((3*k+100)+(3*k+100)+1) _ x7.1 x7.2 (by omega)) (fG x7.2),trivial⟩ ?_
 intro a w4 hF bb hall
 replace st:=st.to bb
 obtain⟨vv5,hF,st⟩:=rS hall hF st 5 rfl rfl Rl.cl
 obtain⟨r7,rfl⟩:=Rq.fo (st.f 0 rfl).1
 clear hall bb
 refine so st hF 0 1 0 aa rfl rfl rfl rfl fun w8 a st hF=>?_
 refine nr ?_
 refine rs Tryz.results73 st hF 1 0 aa rfl rfl rfl ?_
 have bel:=st.bel
 exact⟨_,rfl,(st.f 0 rfl).1,bel⟩
theorem ub (v1:Value) (qt:Rat) (k:Nat) (n:Int) (w:World) (h1:Rq w v1 qt) (hl:ah qt k) (hk:k≤1000) (hn:0<n) (hn2:n≤1000) (h0:0≤qt) (h3:qt<((360:Int):Rat)):
 Calls Tryz.prog 72 #[v1,.int .i64 n] w (aG w (.int .i64 (prt qt n))):=by
 have st:=St.start w
 refine go2 (nt:=16) Tryz.func72 rfl rfl rfl fun a hF=>?_
 refine wq ?_
 obtain⟨r2,rfl⟩:=Rq.fo h1
 refine bx st hF 0 rfl rfl fun g2 w1 a st hF=>?_
 refine oC hF rfl fun a hF=>ns ?_
 refine E.rg 10 aF hF [8,9,10,11,12,7,13,14,5,6] [_,_,_,_,_,.ex (.tuple #[.int .i64 (gX (Rat.floor ((qt)*(((n:Int):Rat)/((360:Int):Rat))))),.bool (ib (Rat.floor ((qt)*(((n:Int):Rat)/((360:Int):Rat)))))]),.ex (.int .i64 (gX (Rat.floor ((qt)*(((n:Int):Rat)/((360:Int):Rat)))))),.ex (.bool (ib (Rat.floor ((qt)*(((n:Int):Rat)/((360:Int):Rat)))))),.ex (.int .i64 (gX (Rat.floor ((qt)*(((n:Int):Rat)/((360:Int):Rat)))))),.ex (.bool (ib (Rat.floor ((qt)*(((n:Int):Rat)/((360:Int):Rat))))))] (by decide+kernel) rfl rfl rfl ⟨rb st aa 1 0 rfl,rm 3 rfl,ck st k48 rfl fun _ s=>aB (bz (n) (360) _ (by omega) (by omega) (by decide) (by decide)) (ah.up (aK (ao (by omega) (by omega)) (ao (by decide) (by decide))) 2 (by decide)),ck st k82 rfl fun _ s _ x10=>de ⟨(h1.below s.bel),hl⟩ x10,ck st k86 rfl fun _ s _ x11=>a9 (iT _ ((qt)*(((n:Int):Rat)/((360:Int):Rat))) (k+2) _ x11.1 x11.2 (by omega)),(by intro a' w' hF' hb hd;have e12:=tE hd 0 rfl;exact dv0 (aN e12) rfl rfl rfl),(by intro a' w' hF' hb hd;have e7:=tE hd 0 rfl;exact dv0 (aR (v:= .int .i64 (gX (Rat.floor ((qt)*(((n:Int):Rat)/((360:Int):Rat)))))) e7 rfl) rfl rfl rfl),(by intro a' w' hF' hb hd;have e7:=tE hd 0 rfl;exact dv0 (aR (v:= .bool (ib (Rat.floor ((qt)*(((n:Int):Rat)/((360:Int):Rat)))))) e7 rfl) rfl rfl rfl),(by intro a' w' hF' hb hd;have e13:=tE hd 0 rfl;exact dv0 (a8 e13) rfl rfl rfl),(by intro a' w' hF' hb hd;have e14:=tE hd 0 rfl;exact dv0 (a8 e14) rfl rfl rfl),trivial⟩ ?_
 intro a w3 hF bb hall
 replace st:=st.to bb
 replace hF:=rE hall hF 8 rfl rfl
 clear hall bb
 refine nq ?_
 refine oM hF 0 rfl rfl fun a hF=>oE hF 0 rfl rfl fun a hF=>nr ?_
 have bel:=st.bel
 refine rt Tryz.results72 hF 0 rfl ?_
 exact⟨bS (KN hn hn2 h0 h3),bel⟩
theorem ud (v1:Value) (qt:Rat) (k:Nat) (w:World) (hT:bG w) (h1:Rq w v1 qt) (hl:ah qt k) (hk:k≤100):
 Calls Tryz.prog 62 #[v1] w (aG w (.int .i64 (prt (dz qt) 12))):=by
 have st:=St.start w
 refine go1 (nt:=6) Tryz.func62 rfl rfl rfl fun a hF=>?_
 refine wq ?_
 obtain⟨r2,rfl⟩:=Rq.fo h1
 refine bx st hF 0 rfl rfl fun g1 w1 a st hF=>?_
 refine oC hF rfl fun a hF=>nq ?_
 refine oL hF st 1 0 aa rfl rfl rfl rfl fun a hF=>?_
 refine S.ck st hF (rgc Ar (aD hF.o)) (aB (qC _ (qt) k _ (hT.below st.bel) (h1.below st.bel) hl (by omega)) (hO hl)) Rl.cl rfl fun vv4 w3 a st hF=>?_
 obtain⟨r6,rfl⟩:=Rq.fo (st.f 0 rfl).1
 refine cX st hF (rgc k72 (aI hF.o ar)) (ub _ _ (3*k+100) 12 _ (st.f 0 rfl).1 (st.f 0 rfl).2 (by omega) (by omega) (by omega) (vC _) (tw _)) rfl fun w7 a st hF=>?_
 have hpt16215:=gW (x:=dz (qt)) (n:=12) (by omega) (vC _) (tw _)
 refine oE hF 0 rfl rfl fun a hF=>nr ?_
 have bel:=st.bel
 refine rt Tryz.results62 hF 0 rfl ?_
 exact⟨rfl,bel⟩
theorem AD (v1:Value) (qt:Rat) (k:Nat) (w:World) (hT:bG w) (h1:Rq w v1 qt) (hl:ah qt k) (hk:k≤100):
 Calls Tryz.prog 39 #[v1] w (aG w (.int .i64 (prt (bi qt) 30+1))):=by
 have st:=St.start w
 refine go1 (nt:=7) Tryz.func39 rfl rfl rfl fun a hF=>?_
 refine wq ?_
 obtain⟨r2,rfl⟩:=Rq.fo h1
 refine bx st hF 0 rfl rfl fun g1 w1 a st hF=>?_
 refine oC hF rfl fun a hF=>nq ?_
 refine oL hF st 1 0 aa rfl rfl rfl rfl fun a hF=>?_
 refine ca st hF (rk Ow (aD hF.o)) (rD _ (qt) k _ (hT.below st.bel) (h1.below st.bel) hl (by omega)) (fun _ _ h=>h) Rq.cl rfl fun vv4 w3 a st hF=>?_
 obtain⟨r6,rfl⟩:=Rq.fo (st.f 0 rfl)
 refine cX st hF (rk Oi (aI hF.o ar)) (ub _ _ (6*k+210) 30 _ (st.f 0 rfl) (mN hl) (by omega) (by omega) (by omega) (ki _) (jE _)) rfl fun w7 a st hF=>?_
 have hpt16717:=gW (x:=bi (qt)) (n:=30) (by omega) (ki _) (jE _)
 refine oV hF (aq hF.o ar ab (bj (by omega) (by omega))) rfl fun a hF=>oE hF 0 rfl rfl fun a hF=>nr ?_
 have bel:=st.bel
 refine rt Tryz.results39 hF 0 rfl ?_
 exact⟨rfl,bel⟩
theorem C8 {v1:Value} {p1:Rat} {k1:Nat} {w:World} (hT:bG w) (x1:Rl p1 k1 w v1) (a1:k1≤100:=by omega):Calls Tryz.prog 110 #[v1] w (Ret (kq (dz (p1)) ((3*k1+100))) w):=aB (qC _ (p1) k1 _ hT x1.1 x1.2 (by omega)) (hO x1.2)
theorem qY {v1:Value} {p1:Rat} {k1:Nat} {w:World} (hT:bG w) (x1:Rl p1 k1 w v1) (a1:k1≤100:=by omega):Calls Tryz.prog 73 #[v1] w (Ret (kq (bi (p1)) ((6*k1+210))) w):=aB (rD _ (p1) k1 _ hT x1.1 x1.2 (by omega)) (mN x1.2)
theorem qq {v1:Value} {p1:Rat} {k1 i1:Nat} {w:World} (x1:Rh p1 k1 i1 w v1) (a1:k1≤3000:=by omega) (b1:1≤k1:=by omega) (c1:i1≤800:=by omega):Calls Tryz.prog 185 #[v1] w (Ret (kh (sof (p1)) ((k1+i1+40)) ((i1+12))) w):=aJ (B5 _ (p1) k1 i1 _ x1.1 x1.2 (by omega) (by omega) (by omega)) (fc x1.2)
theorem Ad {v1:Value} {p1:Rat} {k1 i1:Nat} {w:World} (x1:Rh p1 k1 i1 w v1) (a1:k1≤6000:=by omega) (b1:1≤k1:=by omega):Calls Tryz.prog 188 #[v1] w (Ret (kh (bK (p1)) ((k1+20)) ((i1+20))) w):=aJ (Ci _ (p1) k1 _ x1.1 (by omega) (by omega)) (kO x1.2)
theorem GO {x:Rat} {n:Int} (hn:0<n) (hn2:n≤1000):0≤Rat.floor ((rmod x ((360:Int):Rat))*(((n:Int):Rat)/((360:Int):Rat)))∧Rat.floor ((rmod x ((360:Int):Rat))*(((n:Int):Rat)/((360:Int):Rat)))<65536:=by
 have:=gW (n:=n) (x:=rmod x ((360:Int):Rat)) hn (dE bC) (cZ bC)
 exact⟨show 0≤prt _ n by omega,show prt _ n<_ by omega⟩
theorem ue (v1 v2 v3 v4 v5:Value) (q1 q2 q3 q4 q5:Rat) (k i:Nat) (w:World) (h1:Rr w v1 q1 k) (h2:Rr w v2 q2 12) (h3:Rr w v3 q3 12) (h4:Rr w v4 q4 12) (h5:Rr w v5 q5 12) (li1:ah q1 i) (li2:ah q2 2) (li3:ah q3 2) (li4:ah q4 2) (li5:ah q5 2) (hp:1≤k) (hk:k≤300) (hi:i≤10):
 Calls Tryz.prog 135 #[v1,v2,v3,v4,v5] w (bW w (atv q1 q2 q3 q4 q5) (3*k+8*i+400)):=by
 obtain⟨r1,rfl⟩:=h1.fo
 obtain⟨r2,rfl⟩:=h2.fo
 obtain⟨r3,rfl⟩:=h3.fo
 obtain⟨r4,rfl⟩:=h4.fo
 obtain⟨r5,rfl⟩:=h5.fo
 have st:=St.start w
 refine E.enter (nt:=37) (L:=[(0,r1.v),(1,r2.v),(2,r3.v),(3,r4.v),(4,r5.v)]) Tryz.func135 rfl rfl rfl (aP (i:=0) rfl (aP (i:=1) rfl (aP (i:=2) rfl (aP (i:=3) rfl (aP (i:=4) rfl dP))))) ?_
 intro a hF
 refine wq ?_
 refine bx st hF 0 rfl rfl fun g5 w1 a st hF=>?_
 refine bx st hF 2 rfl rfl fun g6 w2 a st hF=>?_
 refine bx st hF 4 rfl rfl fun g7 w3 a st hF=>?_
 refine bx st hF 6 rfl rfl fun g8 w4 a st hF=>?_
 refine bx st hF 8 rfl rfl fun g9 w5 a st hF=>?_
 refine S.alloc st hF ag rfl rfl fun g10 w6 a st hF=>?_
 refine nq ?_
 refine oL hF st 5 5 ag rfl rfl rfl rfl fun a hF=>oL hF st 4 3 ag rfl rfl rfl rfl fun a hF=>?_
 refine S.ck st hF (rgc Al (aI hF.p hF.o)) (AU ⟨(h1.below st.bel),li1⟩ ⟨(h3.below st.bel),li3⟩) Rh.cl rfl fun vv8 w7 a st hF=>?_
 obtain⟨r10,rfl⟩:=Rr.fo (st.f 0 rfl).1
 refine S.ck st hF (rgc qO (aD hF.o)) (qq (st.f 0 rfl)) Rh.cl rfl fun vv12 w11 a st hF=>?_
 obtain⟨r14,rfl⟩:=Rr.fo (st.f 0 rfl).1
 refine S.new st hF 0 rfl ag rfl rfl rfl rfl rfl fun g11 w15 a st hF=>?_
 refine ns ?_
 refine E.rga 7 aF hF [18,19,20,21,22,23,12] [_,_,_,_,_,_,kn w15 [.bool false,.slice none 0 0,.slice none 0 0]] [6] ⟨fun _ _ ⟨g,e,_,o⟩=>⟨g,e,o.lt⟩,trivial⟩ (by decide+kernel) rfl rfl rfl ⟨rb st ag 0 0 rfl,ck st zG rfl fun _ s=>aJ (nB _ (sof (mof (q1) (q3))) ((k+12+i+2+30)+(i+2+5)+40) _ (s.f 0 rfl).1) (gp (s.f 0 rfl).2),rb st ag 6 2 rfl,ck st k75 rfl fun _ s _ x19=>cD x19 ⟨(h5.below s.bel),li5⟩,rb st ag 7 3 rfl,ck st k75 rfl fun _ s _ x21=>cD x21 ⟨(h4.below s.bel),li4⟩,ra ag rfl rfl,trivial⟩ ?_
 intro a w16 hF bb hall hne
 have s0:=st
 replace st:=st.to bb
 obtain⟨vv17,hF,st⟩:=rS hall hF st 5 rfl rfl Rh.cl
 obtain⟨r19,rfl⟩:=Rr.fo (st.f 0 rfl).1
 obtain⟨_,e12,g12,rfl,ge12,o12⟩:=sS hall 6 12 rfl rfl
 replace st:=st.push o12.blk (Nat.le_trans s0.bel.size ge12) (s0.ne ge12)
 clear o12
 replace hF:=hF.add e12
 clear hall bb hne s0
 refine so st hF 0 0 1 ag rfl rfl rfl rfl fun w20 a st hF=>?_
 refine ns ?_
 refine E.rga 7 aF hF [24,25,26,27,28,29,13] [_,_,_,_,_,_,kn w20 [.bool false,.slice none 0 0,.slice none 0 0]] [6] ⟨fun _ _ ⟨g,e,_,o⟩=>⟨g,e,o.lt⟩,trivial⟩ (by decide+kernel) rfl rfl rfl ⟨rb st ag 2 1 rfl,rb st ag 9 4 rfl,rb st ag 0 0 rfl,ck st k77 rfl fun _ s=>eB ⟨(h4.below s.bel),li4⟩ (s.f 0 rfl),ck st k75 rfl fun _ s _ x27=>cD (s.f 1 rfl) x27,ck st Fw rfl fun _ s _ x28=>Ad x28,ra ag rfl rfl,trivial⟩ ?_
 intro a w21 hF bb hall hne
 have s0:=st
 replace st:=st.to bb
 obtain⟨vv22,hF,st⟩:=rS hall hF st 5 rfl rfl Rh.cl
 obtain⟨r24,rfl⟩:=Rr.fo (st.f 0 rfl).1
 obtain⟨_,e13,g13,rfl,ge13,o13⟩:=sS hall 6 13 rfl rfl
 replace st:=st.push o13.blk (Nat.le_trans s0.bel.size ge13) (s0.ne ge13)
 clear o13
 replace hF:=hF.add e13
 clear hall bb hne s0
 refine so st hF 0 0 1 ag rfl rfl rfl rfl fun w25 a st hF=>?_
 refine ns ?_
 refine E.rg 7 aF hF [30,31,32,33,34,35,36] [_,_,_,_,_,_,_] (by decide+kernel) rfl rfl rfl ⟨rb st ag 14 8 rfl,rb st ag 13 7 rfl,ck st Al rfl fun _ s=>AU ⟨(h1.below s.bel),li1⟩ ⟨(h2.below s.bel),li2⟩,rb st ag 0 0 rfl,ck st k77 rfl fun _ s _ x32=>eB x32 (s.f 0 rfl),ck st k71 rfl fun _ s=>aJ (bm (360) _ (by decide) (by decide)) (bP (by decide) (by decide)),ck st k76 rfl fun _ s _ x34 _ x35=>sd x34 x35,trivial⟩ ?_
 intro a w26 hF bb hall
 replace st:=st.to bb
 obtain⟨vv27,hF,st⟩:=rS hall hF st 6 rfl rfl Rh.cl
 obtain⟨r29,rfl⟩:=Rr.fo (st.f 0 rfl).1
 clear hall bb
 refine so st hF 3 10 0 ag rfl rfl rfl rfl fun w30 a st hF=>?_
 refine nr ?_
 refine rs Tryz.results135 st hF 10 3 ag rfl rfl rfl ?_
 have bel:=st.bel
 exact⟨_,rfl,Rr.cast (Rr.up (st.f 0 rfl).1 _ (by omega)) rfl,bel⟩
theorem rR (v1:Value) (q1:Rat) (k i:Nat) (w:World) (h1:Rr w v1 q1 k) (li1:ah q1 i) (hp:1≤k) (hk:k≤300) (hi:i≤3):
 Calls Tryz.prog 79 #[v1] w (bW w (dz q1) (3*k+8*i+400)):=by
 obtain⟨r1,rfl⟩:=h1.fo
 have st:=St.start w
 refine go1 (nt:=9) Tryz.func79 rfl rfl rfl fun a hF=>?_
 refine wq ?_
 refine bx st hF 0 rfl rfl fun g1 w1 a st hF=>?_
 refine S.alloc st hF ag rfl rfl fun g2 w2 a st hF=>?_
 refine ns ?_
 refine E.rg 6 aF hF [3,4,5,6,7,8] [_,_,_,_,_,.of (fun w v=>Rr w v (atv (q1) (pyr) (pay) (((7:Int):Rat)/((180:Int):Rat)) (((1:Int):Rat)/((42:Int):Rat))) ((3*k+8*i+400))) (fun _ _ _ h hb=>h.below hb)] (by decide+kernel) rfl rfl rfl ⟨rb st ag 1 1 rfl,ck st vT rfl fun _ s=>rV,ck st FQ rfl fun _ s=>j5,ck st k71 rfl fun _ s=>aJ (bD (7) (180) _ (by decide) (by decide) (by decide) (by decide)) (ah.up (aK (ao (by decide) (by decide)) (ao (by decide) (by decide))) 2 (by decide)),ck st k71 rfl fun _ s=>aJ (bD (1) (42) _ (by decide) (by decide) (by decide) (by decide)) (ah.up (aK (ao (by decide) (by decide)) (ao (by decide) (by decide))) 2 (by decide)),ck st LC rfl fun _ s _ x4 _ x5 _ x6 _ x7=>je (ue _ _ _ _ _ (q1) (pyr) (pay) (((7:Int):Rat)/((180:Int):Rat)) (((1:Int):Rat)/((42:Int):Rat)) k i _ (h1.below s.bel) (Rr.up x4.1 12 (by omega)) (Rr.up x5.1 12 (by omega)) (Rr.up x6.1 12 (by omega)) (Rr.up x7.1 12 (by omega)) li1 x4.2 x5.2 x6.2 x7.2 (by omega) (by omega) (by omega)),trivial⟩ ?_
 intro a w3 hF bb hall
 replace st:=st.to bb
 obtain⟨vv4,hF,st⟩:=rS hall hF st 5 rfl rfl Rr.cl
 obtain⟨r6,rfl⟩:=Rr.fo (st.f 0 rfl)
 clear hall bb
 refine so st hF 0 1 0 ag rfl rfl rfl rfl fun w7 a st hF=>?_
 refine nr ?_
 refine rs Tryz.results79 st hF 1 0 ag rfl rfl rfl ?_
 have bel:=st.bel
 exact⟨_,rfl,Rr.cast (Rr.up (st.f 0 rfl) _ (by omega)) (by rw[show((7:Int):Rat)/((180:Int):Rat)=ssz by decide+kernel];rfl),bel⟩
theorem xI (v1:Value) (q1:Rat) (k i:Nat) (w:World) (h1:Rr w v1 q1 k) (li1:ah q1 i) (hp:1≤k) (hk:k≤300) (hi:i≤3):
 Calls Tryz.prog 78 #[v1] w (bW w (ng q1) (3*k+8*i+400)):=by
 obtain⟨r1,rfl⟩:=h1.fo
 have st:=St.start w
 refine go1 (nt:=9) Tryz.func78 rfl rfl rfl fun a hF=>?_
 refine wq ?_
 refine bx st hF 0 rfl rfl fun g1 w1 a st hF=>?_
 refine S.alloc st hF ag rfl rfl fun g2 w2 a st hF=>?_
 refine ns ?_
 refine E.rg 6 aF hF [3,4,5,6,7,8] [_,_,_,_,_,.of (fun w v=>Rr w v (atv (q1) (pmo) (pam) (((4:Int):Rat)/((45:Int):Rat)) (((1:Int):Rat)/((96:Int):Rat))) ((3*k+8*i+400))) (fun _ _ _ h hb=>h.below hb)] (by decide+kernel) rfl rfl rfl ⟨rb st ag 1 1 rfl,ck st NZ rfl fun _ s=>JE,ck st NS rfl fun _ s=>sU,ck st k71 rfl fun _ s=>aJ (bD (4) (45) _ (by decide) (by decide) (by decide) (by decide)) (ah.up (aK (ao (by decide) (by decide)) (ao (by decide) (by decide))) 2 (by decide)),ck st k71 rfl fun _ s=>aJ (bD (1) (96) _ (by decide) (by decide) (by decide) (by decide)) (ah.up (aK (ao (by decide) (by decide)) (ao (by decide) (by decide))) 2 (by decide)),ck st LC rfl fun _ s _ x4 _ x5 _ x6 _ x7=>je (ue _ _ _ _ _ (q1) (pmo) (pam) (((4:Int):Rat)/((45:Int):Rat)) (((1:Int):Rat)/((96:Int):Rat)) k i _ (h1.below s.bel) (Rr.up x4.1 12 (by omega)) (Rr.up x5.1 12 (by omega)) (Rr.up x6.1 12 (by omega)) (Rr.up x7.1 12 (by omega)) li1 x4.2 x5.2 x6.2 x7.2 (by omega) (by omega) (by omega)),trivial⟩ ?_
 intro a w3 hF bb hall
 replace st:=st.to bb
 obtain⟨vv4,hF,st⟩:=rS hall hF st 5 rfl rfl Rr.cl
 obtain⟨r6,rfl⟩:=Rr.fo (st.f 0 rfl)
 clear hall bb
 refine so st hF 0 1 0 ag rfl rfl rfl rfl fun w7 a st hF=>?_
 refine nr ?_
 refine rs Tryz.results78 st hF 1 0 ag rfl rfl rfl ?_
 have bel:=st.bel
 exact⟨_,rfl,Rr.cast (Rr.up (st.f 0 rfl) _ (by omega)) (by rw[show((4:Int):Rat)/((45:Int):Rat)=msz by decide+kernel];rfl),bel⟩
theorem wG (v1:Value) (q1:Rat) (k i:Nat) (w:World) (h1:Rr w v1 q1 k) (li1:ah q1 i) (hp:1≤k) (hk:k≤300) (hi:i≤3):
 Calls Tryz.prog 41 #[v1] w (bW w (bi q1) (6*k+22*i+1100)):=by
 obtain⟨r1,rfl⟩:=h1.fo
 have st:=St.start w
 refine go1 (nt:=10) Tryz.func41 rfl rfl rfl fun a hF=>?_
 refine wq ?_
 refine bx st hF 0 rfl rfl fun g1 w1 a st hF=>?_
 refine S.alloc st hF ag rfl rfl fun g2 w2 a st hF=>?_
 refine ns ?_
 refine E.rg 7 aF hF [3,4,5,6,7,8,9] [_,_,_,_,_,_,_] (by decide+kernel) rfl rfl rfl ⟨rb st ag 1 1 rfl,ck st k78 rfl fun _ s=>aJ (xI _ (q1) k i _ (h1.below s.bel) li1 (by omega) (by omega) (by omega)) (lv li1),rb st ag 1 1 rfl,ck st k79 rfl fun _ s=>aJ (rR _ (q1) k i _ (h1.below s.bel) li1 (by omega) (by omega) (by omega)) (hO li1),ck st k77 rfl fun _ s _ x4 _ x6=>eB x4 x6,ck st k71 rfl fun _ s=>aJ (bm (360) _ (by decide) (by decide)) (bP (by decide) (by decide)),ck st k76 rfl fun _ s _ x7 _ x8=>sd x7 x8,trivial⟩ ?_
 intro a w3 hF bb hall
 replace st:=st.to bb
 obtain⟨vv4,hF,st⟩:=rS hall hF st 6 rfl rfl Rh.cl
 obtain⟨r6,rfl⟩:=Rr.fo (st.f 0 rfl).1
 clear hall bb
 refine so st hF 0 1 0 ag rfl rfl rfl rfl fun w7 a st hF=>?_
 refine nr ?_
 refine rs Tryz.results41 st hF 1 0 ag rfl rfl rfl ?_
 have bel:=st.bel
 exact⟨_,rfl,Rr.cast (Rr.up (st.f 0 rfl).1 _ (by omega)) rfl,bel⟩
theorem l7 (v1:Value) (q1:Rat) (k i:Nat) (n:Int) (w:World) (h1:Rr w v1 q1 k) (li1:ah q1 i) (hp:1≤k) (hk:k≤3000) (hi:i≤600) (hn:0<n) (hn2:n≤1000):
 Calls Tryz.prog 40 #[v1,.int .i64 n] w (aG w (.int .i64 (prt (rmod q1 ((360:Int):Rat)) n))):=by
 obtain⟨r1,rfl⟩:=h1.fo
 have st:=St.start w
 refine go2 (nt:=12) Tryz.func40 rfl rfl rfl fun a hF=>?_
 refine wq ?_
 refine bx st hF 0 rfl rfl fun g2 w1 a st hF=>?_
 refine oC hF rfl fun a hF=>ns ?_
 refine E.rg 7 aF hF [5,6,7,8,9,10,11] [_,_,_,_,_,_,_] (by decide+kernel) rfl rfl rfl ⟨rb st ag 1 0 rfl,ck st k71 rfl fun _ s=>aJ (bm (360) _ (by decide) (by decide)) (bP (by decide) (by decide)),ck st k76 rfl fun _ s _ x6=>sd ⟨(h1.below s.bel),li1⟩ x6,rm 3 rfl,ck st k71 rfl fun _ s=>aJ (bD (n) (360) _ (by omega) (by omega) (by decide) (by decide)) (ah.up (aK (ao (by omega) (by omega)) (ao (by decide) (by decide))) 2 (by decide)),ck st k75 rfl fun _ s _ x7 _ x9=>cD x7 x9,ck st k74 rfl fun _ s _ x10=>a9 (tA _ ((rmod (q1) (((360:Int):Rat)))*(((n:Int):Rat)/((360:Int):Rat))) ((k+2+i+2+3)+2) _ x10.1 (by omega) (by omega) (GO hn hn2).1 (GO hn hn2).2),trivial⟩ ?_
 intro a w2 hF bb hall
 replace st:=st.to bb
 replace hF:=rE hall hF 6 rfl rfl
 clear hall bb
 refine oE hF 0 rfl rfl fun a hF=>nr ?_
 have bel:=st.bel
 refine rt Tryz.results40 hF 0 rfl ?_
 exact⟨rfl,bel⟩
theorem zS {v1:Value} {p1:Rat} {k1 i1:Nat} {w:World} (x1:Rh p1 k1 i1 w v1) (a1:k1≤300:=by omega) (b1:1≤k1:=by omega) (c1:i1≤3:=by omega):Calls Tryz.prog 79 #[v1] w (Ret (kh (dz (p1)) ((3*k1+8*i1+400)) ((3*i1+100))) w):=aJ (rR _ (p1) k1 i1 _ x1.1 x1.2 (by omega) (by omega) (by omega)) (hO x1.2)
theorem pH {v1:Value} {p1:Rat} {k1 i1:Nat} {w:World} (x1:Rh p1 k1 i1 w v1) (a1:k1≤300:=by omega) (b1:1≤k1:=by omega) (c1:i1≤3:=by omega):Calls Tryz.prog 41 #[v1] w (Ret (kh (bi (p1)) ((6*k1+22*i1+1100)) ((6*i1+210))) w):=aJ (wG _ (p1) k1 i1 _ x1.1 x1.2 (by omega) (by omega) (by omega)) (mN x1.2)
end Go.Proofs.YtdbiegfmgabicaaGreatDoor
