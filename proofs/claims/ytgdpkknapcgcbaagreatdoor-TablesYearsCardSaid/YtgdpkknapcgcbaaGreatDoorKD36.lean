import Derived.Test.YtgdpkknapcgcbaaGreatDoorKD20
import Derived.Test.YtgdpkknapcgcbaaGreatDoorKD31
namespace Go.Proofs.YtgdpkknapcgcbaaGreatDoor
open Go.RowKit
set_option maxRecDepth 100000
set_option linter.unusedVariables false
set_option maxHeartbeats 8000000
theorem Bh {w:World} {v1 v2 v3 v4 v5:Value} {q1 q2 q3 q4 q5:Rat} (h1:Rq w v1 q1) (h2:Rq w v2 q2) (h3:Rq w v3 q3) (h4:Rq w v4 q4) (h5:Rq w v5 q5):
 ∃v w',(Instr.buildSlice 246 5 #[(0,v1),(1,v2),(2,v3),(3,v4),(4,v5)]).run Tryz.prog w= .ok v w'/\Below w.heap.size w w'/\jz w' v [q1,q2,q3,q4,q5]:=by
 obtain⟨b1,ad1,n1,c1,ae1,m1,d1,rfl, -, -⟩:=h1.shape
 obtain⟨b2,ad2,n2,c2,ae2,m2,d2,rfl, -, -⟩:=h2.shape
 obtain⟨b3,ad3,n3,c3,ae3,m3,d3,rfl, -, -⟩:=h3.shape
 obtain⟨b4,ad4,n4,c4,ae4,m4,d4,rfl, -, -⟩:=h4.shape
 obtain⟨b5,ad5,n5,c5,ae5,m5,d5,rfl, -, -⟩:=h5.shape
 have ho:=pD (w:=w) (cs:=[.bool b1,.slice ad1 n1 c1,.slice ae1 m1 d1,.bool b2,.slice ad2 n2 c2,.slice ae2 m2 d2,.bool b3,.slice ad3 n3 c3,.slice ae3 m3 d3,.bool b4,.slice ad4 n4 c4,.slice ae4 m4 d4,.bool b5,.slice ad5 n5 c5,.slice ae5 m5 d5]) 33 (niB (niS (niS (niB (niS (niS (niB (niS (niS (niB (niS (niS (niB (niS (niS ni0)))))))))))))))
 refine⟨.slice (some ⟨w.heap.size,0,none⟩) 5 5,w.alloc (.cells #[.bool b1,.slice ad1 n1 c1,.slice ae1 m1 d1,.bool b2,.slice ad2 n2 c2,.slice ae2 m2 d2,.bool b3,.slice ad3 n3 c3,.slice ae3 m3 d3,.bool b4,.slice ad4 n4 c4,.slice ae4 m4 d4,.bool b5,.slice ad5 n5 c5,.slice ae5 m5 d5] 33),?_,ho.2,_,_,rfl,ho.1,?_⟩
 ·have hs:=a8 (P:=Tryz.prog) gD w
  have hu:=run_underlying (P:=Tryz.prog) Tryz.underlying246 w
  have hz:=cW (P:=Tryz.prog) jx w
  simp[Instr.buildSlice,go_sem,hs,hu,Instr.fill,Value.cells,newRow]
 ·intro i hi
  have hi':i<5:=hi
  match i,hi' with
  |0,_=>exact⟨b1,ad1,n1,c1,ae1,m1,d1,rfl,h1.below ho.2⟩
  |1,_=>exact⟨b2,ad2,n2,c2,ae2,m2,d2,rfl,h2.below ho.2⟩
  |2,_=>exact⟨b3,ad3,n3,c3,ae3,m3,d3,rfl,h3.below ho.2⟩
  |3,_=>exact⟨b4,ad4,n4,c4,ae4,m4,d4,rfl,h4.below ho.2⟩
  |4,_=>exact⟨b5,ad5,n5,c5,ae5,m5,d5,rfl,h5.below ho.2⟩
theorem qs5 (q1 q2 q3 q4 q5:Rat):nK [q1,q2,q3,q4,q5] 5=0+q1+q2+q3+q4+q5:=rfl
theorem Ho (v:Value) (q1 q2 q3 q4 q5:Rat) (k:Nat) (w:World) (h:jz w v [q1,q2,q3,q4,q5]) (l1:ag q1 k) (l2:ag q2 k) (l3:ag q3 k) (l4:ag q4 k) (l5:ag q5 k) (hk:k<=10000):CQ 232 #[v] w (q1+q2+q3+q4+q5):=by
 have e0:q1+q2+q3+q4+q5=nK [q1,q2,q3,q4,q5] 5:=by rw[qs5,Rat.zero_add]
 rw[e0]
 have hp:=l1.pos
 refine Aa v [q1,q2,q3,q4,q5] (5*k+4) w h ?_ ?_ (by omega) (by simp)
 ·intro i hi
  have hi':i<6:=Nat.lt_succ_of_le hi
  match i,hi' with
  |0,_=>exact ip (by omega)
  |1,_=>show ag (0+q1) _;rw[Rat.zero_add];exact l1.up _ (by omega)
  |2,_=>show ag (0+q1+q2) _;rw[Rat.zero_add];exact(a9 l1 l2).up _ (by omega)
  |3,_=>show ag (0+q1+q2+q3) _;rw[Rat.zero_add];exact(a9 (a9 l1 l2) l3).up _ (by omega)
  |4,_=>show ag (0+q1+q2+q3+q4) _;rw[Rat.zero_add];exact(a9 (a9 (a9 l1 l2) l3) l4).up _ (by omega)
  |5,_=>show ag (0+q1+q2+q3+q4+q5) _;rw[Rat.zero_add];exact(a9 (a9 (a9 (a9 l1 l2) l3) l4) l5).up _ (by omega)
 ·intro i hi
  have hi':i<5:=hi
  match i,hi' with
  |0,_=>exact l1.up _ (by omega)
  |1,_=>exact l2.up _ (by omega)
  |2,_=>exact l3.up _ (by omega)
  |3,_=>exact l4.up _ (by omega)
  |4,_=>exact l5.up _ (by omega)
theorem jQ (v1:Value) (qt:Rat) (k:Nat) (w:World) (h1:Rq w v1 qt) (hl:ag qt k) (hk:k<=2000):
 CQ 118 #[v1] w (bK qt):=by
 refine gs1 (nt:=10) Tryz.func118 rfl rfl rfl fun a st hF=>wq ?_
 obtain⟨r2,rfl⟩:=Rq.fo h1
 refine bx st hF 0 rfl rfl fun g1 w1 a st hF=>S.alloc st hF aa rfl rfl fun g2 w3 a st hF=>ns<|gz2 7 aI st hF aa 0 0 [3,4,5,6,7,8,9] [_,_,_,_,_,_,_] (by decide+kernel) rfl rfl rfl ⟨rb st aa 1 1 rfl,ck st k40 rfl fun _ s=>cH,ck st co rfl fun _ s _ x4=>cv ⟨(h1.below s.bel),hl⟩ x4,ck st rA rfl fun _ s _ x5=>da (gE _ ((qt)*(((1048576:Int):Rat))) (k+2) _ x5.1 x5.2 (by omega)) (gH x5.2),ck st AM rfl fun _ s _ x6=>aB (qf _ (Rat.floor ((qt)*(((1048576:Int):Rat)))) _ (Wc.wz x6.1)) (ch (Lim.up x6.2 (((k+2)+1)+1) (by omega)) (by omega)),ck st k36 rfl fun _ s=>cJ,ck st co rfl fun _ s _ x7 _ x8=>cv x7 x8,trivial⟩ fun r7 w8 a st hF=>nr ?_
 refine rs Tryz.results118 st hF 1 0 aa rfl rfl rfl ?_
 exact⟨_,rfl,(st.f 0 rfl).1,st.bel⟩
theorem nB (v1:Value) (qt:Rat) (k:Nat) (w:World) (h1:Rq w v1 qt) (hl:ag qt k) (hk:k<=20):
 CQ 265 #[v1] w (cM qt):=by
 refine gs1 (nt:=22) Tryz.func265 rfl rfl rfl fun a st hF=>wq ?_
 obtain⟨r2,rfl⟩:=Rq.fo h1
 refine bx st hF 0 rfl rfl fun g1 w1 a st hF=>S.alloc st hF aa rfl rfl fun g2 w3 a st hF=>ns<|gz1 6 aI st hF aa [5,6,7,8,9,3] [_,_,_,_,_,_] (by decide+kernel) rfl rfl rfl ⟨rb st aa 1 1 rfl,ck st k40 rfl fun _ s=>cH,ck st k35 rfl fun _ s _ x6=>eg ⟨(h1.below s.bel),hl⟩ x6,ck st k36 rfl fun _ s=>cJ,ck st co rfl fun _ s _ x7 _ x8=>cv x7 x8,ra aa rfl rfl,trivial⟩ fun r7 g3 w8 a st hF=>ns<|gz1 7 aI st hF aa [10,11,12,13,14,15,4] [_,_,_,_,_,_,_] (by decide+kernel) rfl rfl rfl ⟨rb st aa 0 0 rfl,ck st k36 rfl fun _ s=>cJ,ck st k35 rfl fun _ s _ x11=>eg (s.f 0 rfl) x11,ck st k36 rfl fun _ s=>cJ,ck st k36 rfl fun _ s=>cJ,ck st Iv rfl fun _ s _ x12 _ x13 _ x14=>Ic x12 x13 x14,ra aa rfl rfl,trivial⟩ fun r12 g4 w13 a st hF=>?_
 refine ns<|gz2 6 aI st hF aa 2 4 [16,17,18,19,20,21] [_,_,_,_,_,_] (by decide+kernel) rfl rfl rfl ⟨ck st k40 rfl fun _ s=>cH,rb st aa 0 0 rfl,ck st BW rfl fun _ s=>BK (s.f 0 rfl),ck st k40 rfl fun _ s=>cH,ck st co rfl fun _ s _ x18 _ x19=>cv x18 x19,ck st k35 rfl fun _ s _ x16 _ x20=>eg x16 x20,trivial⟩ fun r17 w18 a st hF=>nr<|rs Tryz.results265 st hF 5 2 aa rfl rfl rfl ?_
 exact⟨_,rfl,Rq.castM (st.f 0 rfl).1 (by unfold cM;rw[Rat.mul_comm ((108:Int):Rat)];rfl),st.bel⟩
theorem pU (v1:Value) (qt:Rat) (k:Nat) (w:World) (hT:aY w) (h1:Rq w v1 qt) (hl:ag qt k) (hk:k<=20):
 CQ 227 #[v1] w (cg qt):=by
 refine gs1 (nt:=10) Tryz.func227 rfl rfl rfl fun a st hF=>wq ?_
 obtain⟨r2,rfl⟩:=Rq.fo h1
 refine bx st hF 0 rfl rfl fun g1 w1 a st hF=>S.alloc st hF aa rfl rfl fun g2 w3 a st hF=>ns<|gz2 7 aI st hF aa 0 0 [3,4,5,6,7,8,9] [_,_,_,_,_,_,_] (by decide+kernel) rfl rfl rfl ⟨rb st aa 1 1 rfl,ck st k85 rfl fun _ s=>xy (hT.below s.bel) ⟨(h1.below s.bel),hl⟩,rb st aa 1 1 rfl,ck st Iy rfl fun _ s=>aB (nB _ (qt) k _ (h1.below s.bel) hl (by omega)) (rP hl),ck st k35 rfl fun _ s _ x4 _ x6=>eg x4 x6,ck st k40 rfl fun _ s=>cH,ck st wi rfl fun _ s _ x7 _ x8=>Ce x7 x8,trivial⟩ fun r7 w8 a st hF=>nr<|rs Tryz.results227 st hF 1 0 aa rfl rfl rfl ?_
 exact⟨_,rfl,(st.f 0 rfl).1,st.bel⟩
theorem qZ (v1:Value) (qt:Rat) (k:Nat) (w:World) (h1:Rq w v1 qt) (hl:ag qt k) (hk:k<=20):
 CQ 226 #[v1] w (mof qt pay):=by
 refine gs1 (nt:=6) Tryz.func226 rfl rfl rfl fun a st hF=>wq ?_
 obtain⟨r2,rfl⟩:=Rq.fo h1
 refine bx st hF 0 rfl rfl fun g1 w1 a st hF=>S.alloc st hF aa rfl rfl fun g2 w3 a st hF=>ns<|gz2 3 aI st hF aa 0 0 [3,4,5] [_,_,_] (by decide+kernel) rfl rfl rfl ⟨rb st aa 1 1 rfl,ck st F5 rfl fun _ s=>kh,ck st zN rfl fun _ s _ x4=>wP ⟨(h1.below s.bel),hl⟩ x4,trivial⟩ fun r7 w8 a st hF=>nr<|rs Tryz.results226 st hF 1 0 aa rfl rfl rfl ?_
 exact⟨_,rfl,(st.f 0 rfl).1,st.bel⟩
theorem kj (v1:Value) (qt:Rat) (k:Nat) (w:World) (h1:Rq w v1 qt) (hl:ag qt k) (hk:k<=1000):
 CQ 267 #[v1] w (xm qt):=by
 refine gs1 (nt:=9) Tryz.func267 rfl rfl rfl fun a st hF=>wq ?_
 obtain⟨r2,rfl⟩:=Rq.fo h1
 refine bx st hF 0 rfl rfl fun g1 w1 a st hF=>S.alloc st hF aa rfl rfl fun g2 w3 a st hF=>ns<|gz2 6 aI st hF aa 0 0 [3,4,5,6,7,8] [_,_,_,_,_,_] (by decide+kernel) rfl rfl rfl ⟨ck st k36 rfl fun _ s=>cJ,rb st aa 1 1 rfl,ck st BW rfl fun _ s=>BK ⟨(h1.below s.bel),hl⟩,ck st k36 rfl fun _ s=>cJ,ck st co rfl fun _ s _ x5 _ x6=>cv x5 x6,ck st k35 rfl fun _ s _ x3 _ x7=>eg x3 x7,trivial⟩ fun r7 w8 a st hF=>nr<|rs Tryz.results267 st hF 1 0 aa rfl rfl rfl ?_
 exact⟨_,rfl,(st.f 0 rfl).1,st.bel⟩
theorem md (v1:Value) (qt:Rat) (k:Nat) (w:World) (hT:aY w) (h1:Rq w v1 qt) (hl:ag qt k) (hk:k<=300):
 CQ 229 #[v1] w (qg qt):=by
 have hpk:=oN qt
 have hsa:=gU (pk qt)
 refine gs1 (nt:=18) Tryz.func229 rfl rfl rfl fun a st hF=>wq ?_
 obtain⟨r2,rfl⟩:=Rq.fo h1
 refine bx st hF 0 rfl rfl fun g1 w1 a st hF=>S.alloc st hF aa rfl rfl fun g2 w3 a st hF=>ns<|gz1 8 aI st hF aa [4,5,6,7,8,9,10,3] [_,_,_,_,_,_,_,_] (by decide+kernel) rfl rfl rfl ⟨rb st aa 1 1 rfl,ck st IE rfl fun _ s=>bJ (BN _ (qt) k _ (hT.below s.bel) (h1.below s.bel) hl (by omega)),ck st k36 rfl fun _ s=>aB (jf (spk (pk (qt)+1)-spk (pk (qt))) (225) _ (dV (pk (qt))).1 (dV (pk (qt))).2 (by decide) (by decide)) (ag.up (eK (bL (dV (pk (qt))).1 (dV (pk (qt))).2) (bL (by decide) (by decide))) 2 (by decide)),rb st aa 1 1 rfl,ck st pT rfl fun _ s=>qOf (hT.below s.bel) ⟨(h1.below s.bel),hl⟩,ck st EY rfl fun _ s _ x8=>aB (kj _ (sof (qt)) (k+12) _ x8.1 x8.2 (by omega)) (ls x8.2),ck st co rfl fun _ s _ x6 _ x9=>cv x6 x9,ra aa rfl rfl,trivial⟩ fun r7 g3 w8 a st hF=>ns<|gz2 7 aI st hF aa 1 2 [11,12,13,14,15,16,17] [_,_,_,_,_,_,_] (by decide+kernel) rfl rfl rfl ⟨ck st k40 rfl fun _ s=>cH,ck st pY rfl fun _ s=>iX,ck st kP rfl fun _ s _ x11 _ x12=>li x11 x12,ck st k40 rfl fun _ s=>cH,rb st aa 0 0 rfl,ck st k35 rfl fun _ s _ x14=>eg x14 (s.f 0 rfl),ck st co rfl fun _ s _ x13 _ x16=>cv x13 x16,trivial⟩ fun r12 w13 a st hF=>?_
 refine nr<|rs Tryz.results229 st hF 3 1 aa rfl rfl rfl ?_
 exact⟨_,rfl,(st.f 0 rfl).1,st.bel⟩
theorem qj (v1:Value) (qt:Rat) (k:Nat) (w:World) (hT:aY w) (h1:Rq w v1 qt) (hl:ag qt k) (hk:k<=300):
 CQ 233 #[v1] w (rV qt):=by
 refine gs1 (nt:=23) Tryz.func233 rfl rfl rfl fun a st hF=>wq ?_
 obtain⟨r2,rfl⟩:=Rq.fo h1
 refine bx st hF 0 rfl rfl fun g1 w1 a st hF=>S.alloc st hF aa rfl rfl fun g2 w3 a st hF=>nq<|oL hF st 1 1 aa rfl rfl rfl rfl fun a hF=>S.ck st hF (rgc pT (aC hF.o)) (qOf (hT.below st.bel) ⟨(h1.below st.bel),hl⟩) Rl.cl rfl fun vv5 w4 a st hF=>?_
 obtain⟨r7,rfl⟩:=Rq.fo (st.f 0 rfl).1
 refine S.new st hF 0 rfl aa rfl rfl rfl rfl rfl fun g3 w8 a st hF=>ns<|gz1 7 aI st hF aa [7,8,9,10,11,12,4] [_,_,_,_,_,_,_] (by decide+kernel) rfl rfl rfl ⟨rb st aa 0 0 rfl,ck st k36 rfl fun _ s=>cJ,ck st co rfl fun _ s _ x8=>cv (s.f 0 rfl) x8,rb st aa 0 0 rfl,ck st EY rfl fun _ s=>aB (kj _ (sof (qt)) (k+12) _ (s.f 0 rfl).1 (s.f 0 rfl).2 (by omega)) (ls (s.f 0 rfl).2),ck st co rfl fun _ s _ x9 _ x11=>cv x9 x11,ra aa rfl rfl,trivial⟩ fun r12 g4 w13 a st hF=>ns<|gz2 10 aI st hF aa 2 5 [13,14,15,16,17,18,19,20,21,22] [_,_,_,_,_,_,_,_,_,_] (by decide+kernel) rfl rfl rfl ⟨rb st aa 6 3 rfl,ck st GS rfl fun _ s=>aB (md _ (qt) k _ (hT.below s.bel) (h1.below s.bel) hl (by omega)) (nQ hl),ck st k36 rfl fun _ s=>cJ,ck st co rfl fun _ s _ x14 _ x15=>cv x14 x15,rb st aa 0 0 rfl,ck st k36 rfl fun _ s=>cJ,ck st co rfl fun _ s _ x18=>cv (s.f 0 rfl) x18,ck st co rfl fun _ s _ x16 _ x19=>cv x16 x19,ck st pY rfl fun _ s=>iX,ck st co rfl fun _ s _ x20 _ x21=>cv x20 x21,trivial⟩ fun r17 w18 a st hF=>?_
 refine nr<|rs Tryz.results233 st hF 6 2 aa rfl rfl rfl ?_
 exact⟨_,rfl,(st.f 0 rfl).1,st.bel⟩
theorem xk (v1:Value) (qt:Rat) (k:Nat) (w:World) (h1:Rq w v1 (qt*(((1:Int):Rat)/((30:Int):Rat)))) (hl:ag (qt*(((1:Int):Rat)/((30:Int):Rat))) k) (hk:k<=10000) (h0:0<=qt) (h3:qt<((360:Int):Rat)):CV 105 #[v1] w (.tuple #[iv (prt qt 12),.bool true]):=by
 have h:=gt v1 _ k w h1 hl hk
 rwa[(Gc h0 h3).1,(Gc h0 h3).2] at h
theorem ua (v1:Value) (qt:Rat) (k:Nat) (w:World) (h1:Rq w v1 qt) (hl:ag qt k) (hk:k<=300) (h0:0<=qt) (h3:qt<((360:Int):Rat)):
 CQ 230 #[v1] w (tv qt):=by
 have hpt:=j6 (x:=qt) (n:=12) (by omega) h0 h3
 refine gs1 (nt:=19) Tryz.func230 rfl rfl rfl fun a st hF=>wq ?_
 obtain⟨r2,rfl⟩:=Rq.fo h1
 refine bx st hF 0 rfl rfl fun g1 w1 a st hF=>S.alloc st hF aa rfl rfl fun g2 w3 a st hF=>nq<|oV hF (bB (Hg ah ah ah ah ah ah) (sy _ _ _ _ _ _ _)) rfl fun a hF=>S.new st hF 0 rfl Hy rfl rfl rfl rfl rfl fun g3 w4 a st hF=>ns ?_
 refine E.rg 9 aI hF [8,9,10,11,7,12,13,4,5] [_,_,_,_,.ex (.tuple #[iv (prt qt 12),.bool true]),.ex (iv (prt qt 12)),.ex (.bool true),.ex (iv (prt qt 12)),.ex (.bool true)] (by decide+kernel) rfl rfl rfl ⟨rb st aa 3 2 rfl,ck st k36 rfl fun _ s=>cJ,ck st co rfl fun _ s _ x9=>cv ⟨(h1.below s.bel),hl⟩ x9,ck st nY rfl fun _ s _ x10=>bJ (xk _ qt (k+2) _ x10.1 x10.2 (by omega) h0 h3),(by intro a' w' hF' hb hd;have e11:=tE hd 0 rfl;exact dv0 (aG e11) rfl rfl rfl),(by intro a' w' hF' hb hd;have e7:=tE hd 0 rfl;exact dv0 (aA (v:= iv (prt qt 12)) e7 rfl) rfl rfl rfl),(by intro a' w' hF' hb hd;have e7:=tE hd 0 rfl;exact dv0 (aA (v:= .bool true) e7 rfl) rfl rfl rfl),(by intro a' w' hF' hb hd;have e12:=tE hd 0 rfl;exact dv0 (aQ e12) rfl rfl rfl),(by intro a' w' hF' hb hd;have e13:=tE hd 0 rfl;exact dv0 (aQ e13) rfl rfl rfl),trivial⟩ ?_
 intro a w5 hF bb hall
 replace st:=st.to bb
 replace hF:=rE hall hF 7 rfl rfl
 clear hall bb
 refine nq<|oM hF 0 rfl rfl fun a hF=>oV hF (ao hF.o ah ab (mw (a:=prt qt 12) (b:=6) (by omega) (by omega))) rfl fun a hF=>oV hF (dz (hF.at 3 rfl) hF.o (G6 (by omega) (by omega))) rfl fun a hF=>oV hF (ar hF.o (bi (v:= iv (gI (prt qt 12))) (st.bk 0 rfl) EJ)) rfl fun a hF=>S.ck st hF (rgc k36 (aK hF.o ah)) (aB (jf (gI (prt qt 12)) (1800) _ (by have:=mG (prt qt 12);omega) (by have:=mG (prt qt 12);omega) (by decide) (by decide)) (ag.up (eK (bL (by have:=mG (prt qt 12);omega) (by have:=mG (prt qt 12);omega)) (bL (by decide) (by decide))) 2 (by decide))) Rl.cl rfl fun vv7 w6 a st hF=>?_
 obtain⟨r9,rfl⟩:=Rq.fo (st.f 0 rfl).1
 refine so st hF 1 8 0 aa rfl rfl rfl rfl fun w10 a st hF=>nr<|rs Tryz.results230 st hF 8 1 aa rfl rfl rfl ?_
 exact⟨_,rfl,(st.f 0 rfl).1,st.bel⟩
theorem nv (v1:Value) (qt:Rat) (xa xb xc xd:Int) (k:Nat) (w:World) (hT:aY w) (h1:Rq w v1 qt) (hl:ag qt k) (hk:k<=300) (hxa0: -9223372036854775808<=xa) (hxa1:xa<=9223372036854775807) (hxb0: -9223372036854775808<=xb) (hxb1:xb<=9223372036854775807):
 CQ 231 #[v1,.agg #[iv xa,iv xb,iv xc,iv xd]] w (kJ qt (((xa:Int):Rat)/((xb:Int):Rat))):=by
 refine gs2 (nt:=28) Tryz.func231 rfl rfl rfl fun a st hF=>wq ?_
 obtain⟨r2,rfl⟩:=Rq.fo h1
 refine bx st hF 0 rfl rfl fun g2 w1 a st hF=>bx st hF 2 rfl rfl fun g3 w3 a st hF=>S.alloc st hF aa rfl rfl fun g4 w4 a st hF=>nq<|oL hF st 2 2 aa rfl rfl rfl rfl fun a hF=>S.ck st hF (rgc pT (aC hF.o)) (qOf (hT.below st.bel) ⟨(h1.below st.bel),hl⟩) Rl.cl rfl fun vv6 w5 a st hF=>?_
 obtain⟨r8,rfl⟩:=Rq.fo (st.f 0 rfl).1
 refine S.ck st hF (rgc k36 (aK ah ah)) cJ Rl.cl rfl fun vv10 w9 a st hF=>?_
 obtain⟨r12,rfl⟩:=Rq.fo (st.f 0 rfl).1
 refine S.ck st hF (rgc co (aK hF.p hF.o)) (cv (st.f 1 rfl) (st.f 0 rfl)) Rl.cl rfl fun vv14 w13 a st hF=>?_
 obtain⟨r16,rfl⟩:=Rq.fo (st.f 0 rfl).1
 refine S.new st hF 0 rfl aa rfl rfl rfl rfl rfl fun g5 w17 a st hF=>nq<|oL hF st 6 2 aO rfl rfl rfl rfl fun a hF=>S.ck st hF (rgc IY (aC hF.o)) (aB (q9 xa xb xc xd _ hxa0 hxa1 hxb0 hxb1) (kv (n:=xa) (d:=xb) hxa0 hxa1 hxb0 hxb1)) Rl.cl rfl fun vv19 w18 a st hF=>?_
 obtain⟨r21,rfl⟩:=Rq.fo (st.f 0 rfl).1
 refine S.new st hF 0 rfl aa rfl rfl rfl rfl rfl fun g6 w22 a st hF=>ns<|gz1 8 aI st hF aa [14,15,16,17,18,19,20,7] [_,_,_,_,_,_,_,_] (by decide+kernel) rfl rfl rfl ⟨rb st aa 3 1 rfl,rb st aa 0 0 rfl,ck st pT rfl fun _ s=>qOf (hT.below s.bel) (s.f 0 rfl),ck st co rfl fun _ s _ x16=>cv (s.f 1 rfl) x16,rb st aa 0 0 rfl,ck st Gv rfl fun _ s=>vS (hT.below s.bel) (s.f 0 rfl),ck st kP rfl fun _ s _ x17 _ x19=>li x17 x19,ra aa rfl rfl,trivial⟩ fun r26 g7 w27 a st hF=>ns<|gz2 7 aI st hF aa 3 10 [21,22,23,24,25,26,27] [_,_,_,_,_,_,_] (by decide+kernel) rfl rfl rfl ⟨rb st aa 0 0 rfl,ck st k86 rfl fun _ s=>zP (s.f 0 rfl),rb st aa 5 2 rfl,ck st wQ rfl fun _ s=>B3 (hT.below s.bel) (s.f 2 rfl),ck st Gv rfl fun _ s _ x24=>vS (hT.below s.bel) x24,ck st kP rfl fun _ s _ x22 _ x25=>li x22 x25,ck st wQ rfl fun _ s _ x26=>B3 (hT.below s.bel) x26,trivial⟩ fun r31 w32 a st hF=>?_
 refine nr<|rs Tryz.results231 st hF 11 3 aa rfl rfl rfl ?_
 exact⟨_,rfl,Rq.castM (st.f 0 rfl).1 (AO _ _),st.bel⟩
theorem s5 (v1:Value) (n xa xb xc xd qd sg:Int) (w:World) (hT:aY w) (h1:Rq w v1 (((qd:Int):Rat)/((4:Int):Rat))) (hp:aZ xa xb xc xd) (hn0: -4000000<=n) (hn1:n<=4000000) (hq0:1<=qd) (hq1:qd<=3) (hs0: -1<=sg) (hs1:sg<=1):
 CQ 181 #[iv n,.agg #[iv xa,iv xb,iv xc,iv xd],v1,iv sg] w (bn ((n:Int):Rat) (((xa:Int):Rat)/((xb:Int):Rat)) (((xc:Int):Rat)/((xd:Int):Rat)) qd sg):=by
 have st:=St.start w
 refine E.enter (nt:=56) (L:=[(0,iv n),(1,.agg #[iv xa,iv xb,iv xc,iv xd]),(2,v1),(3,iv sg)]) Tryz.func181 rfl rfl rfl (aX (i:=0) rfl (aX (i:=1) rfl (aX (i:=2) rfl (aX (i:=3) rfl dU)))) ?_
 intro a hF
 refine wq<|bx st hF 1 rfl rfl fun g5 w1 a st hF=>?_
 obtain⟨r3,rfl⟩:=Rq.fo h1
 refine bx st hF 3 rfl rfl fun g6 w2 a st hF=>S.alloc st hF aa rfl rfl fun g8 w4 a st hF=>nq<|oM hF 3 rfl rfl fun a hF=>S.ck st hF (rgc k40 (aC hF.o)) cH Rl.cl rfl fun vv6 w5 a st hF=>?_
 obtain⟨r8,rfl⟩:=Rq.fo (st.f 0 rfl).1
 refine S.new st hF 0 rfl aa rfl rfl rfl rfl rfl fun g9 w9 a st hF=>ns ?_
 refine E.rga 6 aI hF [17,18,19,20,10,11] [_,_,_,_,kn w9 [.bool false,.slice none 0 0,.slice none 0 0],kn w9 [.bool false,.slice none 0 0,.slice none 0 0]] [4,5] ⟨fun _ _ ⟨g,e,_,o⟩=>⟨g,e,o.lt⟩,⟨fun _ _ ⟨g,e,_,o⟩=>⟨g,e,o.lt⟩,trivial⟩⟩ (by decide+kernel) rfl rfl rfl ⟨rb st aa 0 0 rfl,ck st Jf rfl fun _ s=>aB (qZ _ (((n:Int):Rat)) 2 _ (s.f 0 rfl).1 (s.f 0 rfl).2 (by omega)) (mL (s.f 0 rfl).2 mv),rb st aa 0 0 rfl,ck st IU rfl fun _ s=>aB (pU _ (((n:Int):Rat)) 2 _ (hT.below s.bel) (s.f 0 rfl).1 (s.f 0 rfl).2 (by omega)) (B5 (s.f 0 rfl).2),ra aa rfl rfl,ra aa rfl rfl,trivial⟩ ?_
 intro a w10 hF bb hall hne
 have s0:=st
 replace st:=st.to bb
 obtain⟨vv11,hF,st⟩:=rS hall hF st 1 rfl rfl Rl.cl
 obtain⟨r13,rfl⟩:=Rq.fo (st.f 0 rfl).1
 obtain⟨vv14,hF,st⟩:=rS hall hF st 3 rfl rfl Rl.cl
 obtain⟨r16,rfl⟩:=Rq.fo (st.f 0 rfl).1
 obtain⟨_,e10,g10,rfl,ge10,o10⟩:=sS hall 4 10 rfl rfl
 replace st:=st.push o10.blk (Nat.le_trans s0.bel.size ge10) (s0.ne ge10)
 clear o10
 replace hF:=hF.add e10
 obtain⟨_,e11,g11,rfl,ge11,o11⟩:=sS hall 5 11 rfl rfl
 replace st:=st.push o11.blk (Nat.le_trans s0.bel.size ge11) (qb (fun(e:g10=g11)=>hne 4 5 10 11 rfl rfl (by decide) rfl rfl (by rw[e10,e11,e])) (s0.ne ge11))
 clear o11
 replace hF:=hF.add e11
 clear hall bb hne s0
 refine so st hF 1 1 3 aa rfl rfl rfl rfl fun w17 a st hF=>so st hF 0 0 2 aa rfl rfl rfl rfl fun w18 a st hF=>ns<|gz1 8 aI st hF aa [21,22,23,24,25,26,27,12] [_,_,_,_,_,_,_,_] (by decide+kernel) rfl rfl rfl ⟨ck st k90 rfl fun _ s=>bJ (mC _),ck st FJ rfl fun _ s=>aB (kB 463 20 45461 600 _ (by decide) (by decide) (by decide) (by decide)) (kv (n:=45461) (d:=600) (by decide) (by decide) (by decide) (by decide)),rb st aO 9 5 rfl,ck st FJ rfl fun _ s=>aB (kB xa xb xc xd _ (by have:=hp.c0;have:=hp.c1;have:=hp.b1;have:=hp.d1;omega) (by have:=hp.c0;have:=hp.c1;have:=hp.b1;have:=hp.d1;omega) (by have:=hp.d0;have:=hp.d1;have:=hp.b1;have:=hp.d1;omega) (by have:=hp.d0;have:=hp.d1;have:=hp.b1;have:=hp.d1;omega)) (kv (n:=xc) (d:=xd) (by have:=hp.c0;have:=hp.c1;have:=hp.b1;have:=hp.d1;omega) (by have:=hp.c0;have:=hp.c1;have:=hp.b1;have:=hp.d1;omega) (by have:=hp.d0;have:=hp.d1;have:=hp.b1;have:=hp.d1;omega) (by have:=hp.d0;have:=hp.d1;have:=hp.b1;have:=hp.d1;omega)),ck st k35 rfl fun _ s _ x22 _ x24=>eg x22 x24,ck st k36 rfl fun _ s=>cJ,ck st co rfl fun _ s _ x25 _ x26=>cv x25 x26,ra aa rfl rfl,trivial⟩ fun r22 g12 w23 a st hF=>ns ?_
 refine gz1 15 aI st hF aa [28,29,30,31,32,33,34,35,36,37,38,39,40,41,13] [_,_,_,_,_,_,_,_,_,_,_,_,_,_,_] (by decide+kernel) rfl rfl rfl ⟨rb st aa 10 5 rfl,rb st aa 3 2 rfl,ck st GS rfl fun _ s=>aB (md _ (mof (((n:Int):Rat)) pay) 9 _ (hT.below s.bel) (s.f 2 rfl).1 (s.f 2 rfl).2 (by omega)) (nQ (s.f 2 rfl).2),ck st co rfl fun _ s _ x30=>cv ⟨(h1.below s.bel),(kv (n:=qd) (d:=4) (by omega) (by omega) (by decide) (by decide))⟩ x30,rb st aa 2 1 rfl,ck st IJ rfl fun _ s=>aB (ua _ (cg (((n:Int):Rat))) 190 _ (s.f 1 rfl).1 (s.f 1 rfl).2 (by omega) (fv bQ) (eI bQ)) (AH _),ck st co rfl fun _ s _ x31 _ x33=>cv x31 x33,rb st aa 2 1 rfl,rb st aO 11 6 rfl,ck st Ix rfl fun _ s=>aB (nv _ (cg (((n:Int):Rat))) xa xb xc xd 190 _ (hT.below s.bel) (s.f 1 rfl).1 (s.f 1 rfl).2 (by omega) (by have:=hp.a0;have:=hp.a1;have:=hp.b1;have:=hp.d1;omega) (by have:=hp.a0;have:=hp.a1;have:=hp.b1;have:=hp.d1;omega) (by have:=hp.b0;have:=hp.b1;have:=hp.b1;have:=hp.d1;omega) (by have:=hp.b0;have:=hp.b1;have:=hp.b1;have:=hp.d1;omega)) (xz (s.f 1 rfl).2 (kv (n:=xa) (d:=xb) (by have:=hp.a0;have:=hp.a1;have:=hp.b1;have:=hp.d1;omega) (by have:=hp.a0;have:=hp.a1;have:=hp.b1;have:=hp.d1;omega) (by have:=hp.b0;have:=hp.b1;have:=hp.b1;have:=hp.d1;omega) (by have:=hp.b0;have:=hp.b1;have:=hp.b1;have:=hp.d1;omega)) (by decide)),rm 15 rfl,ck st k40 rfl fun _ s=>cH,ck st co rfl fun _ s _ x37 _ x39=>cv x37 x39,ck st k76 rfl fun _ s _ x34 _ x40=>je x34 x40,ra aa rfl rfl,trivial⟩ fun r27 g13 w28 a st hF=>ns<|gz1 6 aI st hF aa [42,43,44,45,46,14] [_,_,_,_,_,_] (by decide+kernel) rfl rfl rfl ⟨ck st k36 rfl fun _ s=>cJ,ck st k36 rfl fun _ s=>cJ,ck st co rfl fun _ s _ x42 _ x43=>cv x42 x43,rb st aa 0 0 rfl,ck st co rfl fun _ s _ x44=>cv x44 (s.f 0 rfl),ra aa rfl rfl,trivial⟩ fun r32 g14 w33 a st hF=>?_
 refine ns<|gz2 9 aI st hF aa 6 13 [47,48,49,50,51,52,53,54,55] [_,_,_,_,_,_,_,.of (fun w v=>jz w v [((n:Int):Rat),((qd:Int):Rat)/((4:Int):Rat),((((45461:Int):Rat)/((600:Int):Rat))-(((xc:Int):Rat)/((xd:Int):Rat)))*(((1:Int):Rat)/((360:Int):Rat)), -(rV (mof (((n:Int):Rat)) pay)),((((1577917828:Int):Rat)/((1582237828:Int):Rat))*(((1:Int):Rat)/((360:Int):Rat)))*((((((qd:Int):Rat)/((4:Int):Rat))*(qg (mof (((n:Int):Rat)) pay)))*(tv (cg (((n:Int):Rat)))))+((kJ (cg (((n:Int):Rat))) (((xa:Int):Rat)/((xb:Int):Rat)))*(((sg:Int):Rat))))]/\ag (((n:Int):Rat)) (2)/\ag (((qd:Int):Rat)/((4:Int):Rat)) (2)/\ag (((((45461:Int):Rat)/((600:Int):Rat))-(((xc:Int):Rat)/((xd:Int):Rat)))*(((1:Int):Rat)/((360:Int):Rat))) (7)/\ag (-(rV (mof (((n:Int):Rat)) pay))) (127)/\ag (((((1577917828:Int):Rat)/((1582237828:Int):Rat))*(((1:Int):Rat)/((360:Int):Rat)))*((((((qd:Int):Rat)/((4:Int):Rat))*(qg (mof (((n:Int):Rat)) pay)))*(tv (cg (((n:Int):Rat)))))+((kJ (cg (((n:Int):Rat))) (((xa:Int):Rat)/((xb:Int):Rat)))*(((sg:Int):Rat))))) (579)) (fun w w' v h hb=>⟨jz.mono _ w w' v h.1 hb,h.2⟩),_] (by decide+kernel) rfl rfl rfl ⟨rb st aa 10 5 rfl,rb st aa 14 7 rfl,rb st aa 4 2 rfl,rb st aa 7 4 rfl,ck st I0 rfl fun _ s=>aB (qj _ (mof (((n:Int):Rat)) pay) 9 _ (hT.below s.bel) (s.f 4 rfl).1 (s.f 4 rfl).2 (by omega)) (BG (s.f 4 rfl).2),ck st k86 rfl fun _ s _ x51=>zP x51,rb st aa 0 0 rfl,(by intro a' w' hF' hb hd;have e47:=tE hd 0 rfl;have e48:=tE hd 1 rfl;have e49:=tE hd 2 rfl;obtain⟨v52_0,e52,h52_1⟩:=tH hd 3 rfl;have e53:=tE hd 4 rfl;obtain⟨vq,w2,hr,bb,hq⟩:=Bh ((st.f 5 rfl).below hb).1 (h1.below (bv st.bel hb)) ((st.f 2 rfl).below hb).1 h52_1.1 ((st.f 0 rfl).below hb).1;exact dh (bF rfl) (bA.vals (du (Cj e47 e48 e49 e52 e53) hr) ⟨⟨hq,((st.f 5 rfl).below hb).2,(kv (n:=qd) (d:=4) (by omega) (by omega) (by decide) (by decide)),((st.f 2 rfl).below hb).2,h52_1.2,((st.f 0 rfl).below hb).2⟩,bb,(fun h=>absurd h (by decide))⟩)),ck st Ja rfl fun _ s _ x54=>aB (Ho _ (((n:Int):Rat)) (((qd:Int):Rat)/((4:Int):Rat)) (((((45461:Int):Rat)/((600:Int):Rat))-(((xc:Int):Rat)/((xd:Int):Rat)))*(((1:Int):Rat)/((360:Int):Rat))) (-(rV (mof (((n:Int):Rat)) pay))) (((((1577917828:Int):Rat)/((1582237828:Int):Rat))*(((1:Int):Rat)/((360:Int):Rat)))*((((((qd:Int):Rat)/((4:Int):Rat))*(qg (mof (((n:Int):Rat)) pay)))*(tv (cg (((n:Int):Rat)))))+((kJ (cg (((n:Int):Rat))) (((xa:Int):Rat)/((xb:Int):Rat)))*(((sg:Int):Rat))))) (max (max (max 2 7) 127) 579) _ x54.1 (x54.2.1.up _ (by omega)) (x54.2.2.1.up _ (by omega)) (x54.2.2.2.1.up _ (by omega)) (x54.2.2.2.2.1.up _ (by omega)) (x54.2.2.2.2.2.up _ (by omega)) (by omega)) (a9 (a9 (a9 (a9 x54.2.1 x54.2.2.1) x54.2.2.2.1) x54.2.2.2.2.1) x54.2.2.2.2.2),trivial⟩ fun r37 w38 a st hF=>nr<|rs Tryz.results181 st hF 14 6 aa rfl rfl rfl ?_
 exact⟨_,rfl,Rq.castM (st.f 0 rfl).1 (A7 _ _ _ qd sg _ rfl),st.bel⟩
theorem uu (v1:Value) (n xa xb xc xd:Int) (w:World) (hT:aY w) (h1:Rq w v1 (((1:Int):Rat)/((4:Int):Rat))) (hp:aZ xa xb xc xd) (hn0: -4000000<=n) (hn1:n<=4000000):
 CQ 181 #[iv n,.agg #[iv xa,iv xb,iv xc,iv xd],v1,iv 1] w (dF n xa xb xc xd):=s5 v1 n xa xb xc xd 1 1 w hT h1 hp hn0 hn1 (by decide) (by decide) (by decide) (by decide)
theorem ui (v1:Value) (n xa xb xc xd:Int) (w:World) (hT:aY w) (h1:Rq w v1 (((3:Int):Rat)/((4:Int):Rat))) (hp:aZ xa xb xc xd) (hn0: -4000000<=n) (hn1:n<=4000000):
 CQ 181 #[iv n,.agg #[iv xa,iv xb,iv xc,iv xd],v1,iv (-1)] w (gP n xa xb xc xd):=s5 v1 n xa xb xc xd 3 (-1) w hT h1 hp hn0 hn1 (by decide) (by decide) (by decide) (by decide)
theorem wm (n xa xb xc xd:Int) (w:World) (hT:aY w) (hp:aZ xa xb xc xd) (hn0: -4000000<=n) (hn1:n<=4000000):
 CQ 119 #[iv n,.agg #[iv xa,iv xb,iv xc,iv xd]] w (dF n xa xb xc xd):=by
 refine gs2 (nt:=9) Tryz.func119 rfl rfl rfl fun a st hF=>wq<|bx st hF 1 rfl rfl fun g3 w1 a st hF=>S.alloc st hF aa rfl rfl fun g4 w2 a st hF=>ns<|gz2 4 aI st hF aa 0 0 [5,6,7,8] [_,_,_,_] (by decide+kernel) rfl rfl rfl ⟨rm 2 rfl,rb st aO 1 1 rfl,ck st k36 rfl fun _ s=>cJ,ck st GN rfl fun _ s _ x7=>aB (uu _ n xa xb xc xd _ (hT.below s.bel) x7.1 (by first|assumption|constructor<;>omega) (by omega) (by omega)) (uX (by first|assumption|constructor<;>omega) (by omega) (by omega)),trivial⟩ fun r6 w7 a st hF=>nr<|rs Tryz.results119 st hF 1 0 aa rfl rfl rfl ?_
 exact⟨_,rfl,(st.f 0 rfl).1,st.bel⟩
theorem xl (n xa xb xc xd:Int) (w:World) (hT:aY w) (hp:aZ xa xb xc xd) (hn0: -4000000<=n) (hn1:n<=4000000):
 CQ 121 #[iv n,.agg #[iv xa,iv xb,iv xc,iv xd]] w (gP n xa xb xc xd):=by
 refine gs2 (nt:=9) Tryz.func121 rfl rfl rfl fun a st hF=>wq<|bx st hF 1 rfl rfl fun g3 w1 a st hF=>S.alloc st hF aa rfl rfl fun g4 w2 a st hF=>ns<|gz2 4 aI st hF aa 0 0 [5,6,7,8] [_,_,_,_] (by decide+kernel) rfl rfl rfl ⟨rm 2 rfl,rb st aO 1 1 rfl,ck st k36 rfl fun _ s=>cJ,ck st GN rfl fun _ s _ x7=>aB (ui _ n xa xb xc xd _ (hT.below s.bel) x7.1 (by first|assumption|constructor<;>omega) (by omega) (by omega)) (vc (by first|assumption|constructor<;>omega) (by omega) (by omega)),trivial⟩ fun r6 w7 a st hF=>nr<|rs Tryz.results121 st hF 1 0 aa rfl rfl rfl ?_
 exact⟨_,rfl,(st.f 0 rfl).1,st.bel⟩
theorem eX (n xa xb xc xd:Int) (w:World) (hT:aY w) (hp:aZ xa xb xc xd) (hn0: -4000000<=n) (hn1:n<=4000000):
 CQ 55 #[iv n,.agg #[iv xa,iv xb,iv xc,iv xd]] w (bK (dF n xa xb xc xd)):=by
 refine gs2 (nt:=9) Tryz.func55 rfl rfl rfl fun a st hF=>wq<|bx st hF 1 rfl rfl fun g3 w1 a st hF=>S.alloc st hF aa rfl rfl fun g4 w2 a st hF=>nq<|oM hF 2 rfl rfl fun a hF=>oL hF st 2 1 aO rfl rfl rfl rfl fun a hF=>S.ck st hF (rgc I6 (aK hF.p hF.o)) (aB (wm n xa xb xc xd _ (hT.below st.bel) (by first|assumption|constructor<;>omega) (by omega) (by omega)) (uX (by first|assumption|constructor<;>omega) (by omega) (by omega))) Rl.cl rfl fun vv4 w3 a st hF=>?_
 obtain⟨r6,rfl⟩:=Rq.fo (st.f 0 rfl).1
 refine S.ck st hF (rgc AC (aC hF.o)) (aB (jQ _ _ 90 _ (st.f 0 rfl).1 (st.f 0 rfl).2 (by omega)) (fX (by first|assumption|constructor<;>omega) (by omega) (by omega))) Rl.cl rfl fun vv8 w7 a st hF=>?_
 obtain⟨r10,rfl⟩:=Rq.fo (st.f 0 rfl).1
 refine so st hF 0 4 0 aa rfl rfl rfl rfl fun w11 a st hF=>nr<|rs Tryz.results55 st hF 4 0 aa rfl rfl rfl ?_
 exact⟨_,rfl,(st.f 0 rfl).1,st.bel⟩
theorem mg (n xa xb xc xd:Int) (w:World) (hT:aY w) (hp:aZ xa xb xc xd) (hn0: -4000000<=n) (hn1:n<=4000000):
 CQ 57 #[iv n,.agg #[iv xa,iv xb,iv xc,iv xd]] w (bK (gP n xa xb xc xd)):=by
 refine gs2 (nt:=9) Tryz.func57 rfl rfl rfl fun a st hF=>wq<|bx st hF 1 rfl rfl fun g3 w1 a st hF=>S.alloc st hF aa rfl rfl fun g4 w2 a st hF=>nq<|oM hF 2 rfl rfl fun a hF=>oL hF st 2 1 aO rfl rfl rfl rfl fun a hF=>S.ck st hF (rgc I8 (aK hF.p hF.o)) (aB (xl n xa xb xc xd _ (hT.below st.bel) (by first|assumption|constructor<;>omega) (by omega) (by omega)) (vc (by first|assumption|constructor<;>omega) (by omega) (by omega))) Rl.cl rfl fun vv4 w3 a st hF=>?_
 obtain⟨r6,rfl⟩:=Rq.fo (st.f 0 rfl).1
 refine S.ck st hF (rgc AC (aC hF.o)) (aB (jQ _ _ 90 _ (st.f 0 rfl).1 (st.f 0 rfl).2 (by omega)) (k7 (by first|assumption|constructor<;>omega) (by omega) (by omega))) Rl.cl rfl fun vv8 w7 a st hF=>?_
 obtain⟨r10,rfl⟩:=Rq.fo (st.f 0 rfl).1
 refine so st hF 0 4 0 aa rfl rfl rfl rfl fun w11 a st hF=>nr<|rs Tryz.results57 st hF 4 0 aa rfl rfl rfl ?_
 exact⟨_,rfl,(st.f 0 rfl).1,st.bel⟩
end Go.Proofs.YtgdpkknapcgcbaaGreatDoor
