import Derived.Test.YtnljadejcfgmaaaGreatDoorKB20
import Derived.Test.YtnljadejcfgmaaaGreatDoorKB21
import Derived.Test.YtnljadejcfgmaaaGreatDoorKB36
namespace Go.Proofs.YtnljadejcfgmaaaGreatDoor
open Go.RowKit
set_option maxRecDepth 100000
set_option linter.unusedVariables false
set_option maxHeartbeats 8000000
theorem t7 {w:World} {v1 v2 v3 v4 v5:Value} {q1 q2 q3 q4 q5:Rat} (h1:Rq w v1 q1) (h2:Rq w v2 q2) (h3:Rq w v3 q3) (h4:Rq w v4 q4) (h5:Rq w v5 q5):
 ∃v w',(Instr.buildSlice 205 5 #[(0,v1),(1,v2),(2,v3),(3,v4),(4,v5)]).run Tryz.prog w= .ok v w'∧Below w.heap.size w w'∧iE w' v [q1,q2,q3,q4,q5]:=by
 obtain⟨b1,ad1,n1,c1,ae1,m1,d1,rfl, -, -⟩:=h1.shape
 obtain⟨b2,ad2,n2,c2,ae2,m2,d2,rfl, -, -⟩:=h2.shape
 obtain⟨b3,ad3,n3,c3,ae3,m3,d3,rfl, -, -⟩:=h3.shape
 obtain⟨b4,ad4,n4,c4,ae4,m4,d4,rfl, -, -⟩:=h4.shape
 obtain⟨b5,ad5,n5,c5,ae5,m5,d5,rfl, -, -⟩:=h5.shape
 have ho:=k4 (w:=w) (cs:=[.bool b1,.slice ad1 n1 c1,.slice ae1 m1 d1,.bool b2,.slice ad2 n2 c2,.slice ae2 m2 d2,.bool b3,.slice ad3 n3 c3,.slice ae3 m3 d3,.bool b4,.slice ad4 n4 c4,.slice ae4 m4 d4,.bool b5,.slice ad5 n5 c5,.slice ae5 m5 d5]) 33 (niB (niS (niS (niB (niS (niS (niB (niS (niS (niB (niS (niS (niB (niS (niS ni0)))))))))))))))
 refine⟨.slice (some ⟨w.heap.size,0,none⟩) 5 5,w.alloc (.cells #[.bool b1,.slice ad1 n1 c1,.slice ae1 m1 d1,.bool b2,.slice ad2 n2 c2,.slice ae2 m2 d2,.bool b3,.slice ad3 n3 c3,.slice ae3 m3 d3,.bool b4,.slice ad4 n4 c4,.slice ae4 m4 d4,.bool b5,.slice ad5 n5 c5,.slice ae5 m5 d5] 33),?_,ho.2,_,_,rfl,ho.1,?_⟩
 ·have hs:=bB (P:=Tryz.prog) ie w
  have hu:=run_underlying (P:=Tryz.prog) Tryz.underlying205 w
  have hz:=cH (P:=Tryz.prog) f8 w
  simp[Instr.buildSlice,go_sem,hs,hu,Instr.fill,Value.cells,newRow]
 ·intro i hi
  have hi':i<5:=hi
  match i,hi' with
  |0,_=>exact⟨b1,ad1,n1,c1,ae1,m1,d1,rfl,h1.below ho.2⟩
  |1,_=>exact⟨b2,ad2,n2,c2,ae2,m2,d2,rfl,h2.below ho.2⟩
  |2,_=>exact⟨b3,ad3,n3,c3,ae3,m3,d3,rfl,h3.below ho.2⟩
  |3,_=>exact⟨b4,ad4,n4,c4,ae4,m4,d4,rfl,h4.below ho.2⟩
  |4,_=>exact⟨b5,ad5,n5,c5,ae5,m5,d5,rfl,h5.below ho.2⟩
theorem qs5 (q1 q2 q3 q4 q5:Rat):oW [q1,q2,q3,q4,q5] 5=0+q1+q2+q3+q4+q5:=rfl
theorem CM (v:Value) (q1 q2 q3 q4 q5:Rat) (k:Nat) (w:World) (h:iE w v [q1,q2,q3,q4,q5]) (l1:au q1 k) (l2:au q2 k) (l3:au q3 k) (l4:au q4 k) (l5:au q5 k) (hk:k≤10000):Calls Tryz.prog 207 #[v] w (bl w (q1+q2+q3+q4+q5)):=by
 have e0:q1+q2+q3+q4+q5=oW [q1,q2,q3,q4,q5] 5:=by rw[qs5,Rat.zero_add]
 rw[e0]
 have hp:=l1.pos
 refine A0 v [q1,q2,q3,q4,q5] (5*k+4) w h ?_ ?_ (by omega) (by simp)
 ·intro i hi
  have hi':i<6:=Nat.lt_succ_of_le hi
  match i,hi' with
  |0,_=>exact jg (by omega)
  |1,_=>show au (0+q1) _;rw[Rat.zero_add];exact l1.up _ (by omega)
  |2,_=>show au (0+q1+q2) _;rw[Rat.zero_add];exact(bp l1 l2).up _ (by omega)
  |3,_=>show au (0+q1+q2+q3) _;rw[Rat.zero_add];exact(bp (bp l1 l2) l3).up _ (by omega)
  |4,_=>show au (0+q1+q2+q3+q4) _;rw[Rat.zero_add];exact(bp (bp (bp l1 l2) l3) l4).up _ (by omega)
  |5,_=>show au (0+q1+q2+q3+q4+q5) _;rw[Rat.zero_add];exact(bp (bp (bp (bp l1 l2) l3) l4) l5).up _ (by omega)
 ·intro i hi
  have hi':i<5:=hi
  match i,hi' with
  |0,_=>exact l1.up _ (by omega)
  |1,_=>exact l2.up _ (by omega)
  |2,_=>exact l3.up _ (by omega)
  |3,_=>exact l4.up _ (by omega)
  |4,_=>exact l5.up _ (by omega)
theorem kO (v1:Value) (qt:Rat) (k:Nat) (w:World) (h1:Rq w v1 qt) (hl:au qt k) (hk:k≤2000):
 Calls Tryz.prog 55 #[v1] w (bl w (cz qt)):=by
 have st:=St.start w
 refine go1 (nt:=10) Tryz.func55 rfl rfl rfl fun a hF=>?_
 refine wq ?_
 obtain⟨r2,rfl⟩:=Rq.fo h1
 refine bx st hF 0 rfl rfl fun g1 w1 a st hF=>?_
 refine S.alloc st hF ah rfl rfl fun g2 w3 a st hF=>?_
 refine ns ?_
 refine E.rg 7 aF hF [3,4,5,6,7,8,9] [_,_,_,_,_,_,_] (by decide+kernel) rfl rfl rfl ⟨rb st ah 1 1 rfl,ck st k40 rfl fun _ s=>aD (bj (1048576) _ (by decide) (by decide)) (a9 (az (by decide) (by decide)) (by omega)),ck st k58 rfl fun _ s _ x4=>cB ⟨(h1.below s.bel),hl⟩ x4,ck st Iw rfl fun _ s _ x5=>zK (ij _ ((qt)*(((1048576:Int):Rat))) (k+2) _ x5.1 x5.2 (by omega)) (ft x5.2),ck st IM rfl fun _ s _ x6=>aD (pV _ (Rat.floor ((qt)*(((1048576:Int):Rat)))) _ (Wc.wz x6.1)) (a9 (Lim.up x6.2 (((k+2)+1)+1) (by omega)) (by omega)),ck st k35 rfl fun _ s=>aD (bw (1) (1048576) _ (by decide) (by decide) (by decide) (by decide)) (au.up (aJ (az (by decide) (by decide)) (az (by decide) (by decide))) 2 (by decide)),ck st k58 rfl fun _ s _ x7 _ x8=>cB x7 x8,trivial⟩ ?_
 intro a w4 hF bb hall
 replace st:=st.to bb
 obtain⟨vv5,hF,st⟩:=rS hall hF st 6 rfl rfl Rl.cl
 obtain⟨r7,rfl⟩:=Rq.fo (st.f 0 rfl).1
 clear hall bb
 refine so st hF 0 1 0 ah rfl rfl rfl rfl fun w8 a st hF=>?_
 refine nr ?_
 refine rs Tryz.results55 st hF 1 0 ah rfl rfl rfl ?_
 have bel:=st.bel
 exact⟨_,rfl,(st.f 0 rfl).1,bel⟩
theorem oj (v1:Value) (qt:Rat) (k:Nat) (w:World) (h1:Rq w v1 qt) (hl:au qt k) (hk:k≤20):
 Calls Tryz.prog 235 #[v1] w (bl w (eR qt)):=by
 have st:=St.start w
 refine go1 (nt:=22) Tryz.func235 rfl rfl rfl fun a hF=>?_
 refine wq ?_
 obtain⟨r2,rfl⟩:=Rq.fo h1
 refine bx st hF 0 rfl rfl fun g1 w1 a st hF=>?_
 refine S.alloc st hF ah rfl rfl fun g2 w3 a st hF=>?_
 refine ns ?_
 refine E.rga 6 aF hF [5,6,7,8,9,3] [_,_,_,_,_,kn w3 [.bool false,.slice none 0 0,.slice none 0 0]] [5] ⟨fun _ _ ⟨g,e,_,o⟩=>⟨g,e,o.lt⟩,trivial⟩ (by decide+kernel) rfl rfl rfl ⟨rb st ah 1 1 rfl,ck st k40 rfl fun _ s=>aD (bj ((-1132959)) _ (by decide) (by decide)) (a9 (az (by decide) (by decide)) (by omega)),ck st k57 rfl fun _ s _ x6=>gJ ⟨(h1.below s.bel),hl⟩ x6,ck st k35 rfl fun _ s=>aD (bw (600) (1577917828) _ (by decide) (by decide) (by decide) (by decide)) (au.up (aJ (az (by decide) (by decide)) (az (by decide) (by decide))) 2 (by decide)),ck st k58 rfl fun _ s _ x7 _ x8=>cB x7 x8,ra ah rfl rfl,trivial⟩ ?_
 intro a w4 hF bb hall hne
 have s0:=st
 replace st:=st.to bb
 obtain⟨vv5,hF,st⟩:=rS hall hF st 4 rfl rfl Rl.cl
 obtain⟨r7,rfl⟩:=Rq.fo (st.f 0 rfl).1
 obtain⟨_,e3,g3,rfl,ge3,o3⟩:=sS hall 5 3 rfl rfl
 replace st:=st.push o3.blk (Nat.le_trans s0.bel.size ge3) (s0.ne ge3)
 clear o3
 replace hF:=hF.add e3
 clear hall bb hne s0
 refine so st hF 0 0 1 ah rfl rfl rfl rfl fun w8 a st hF=>?_
 refine ns ?_
 refine E.rga 7 aF hF [10,11,12,13,14,15,4] [_,_,_,_,_,_,kn w8 [.bool false,.slice none 0 0,.slice none 0 0]] [6] ⟨fun _ _ ⟨g,e,_,o⟩=>⟨g,e,o.lt⟩,trivial⟩ (by decide+kernel) rfl rfl rfl ⟨rb st ah 0 0 rfl,ck st k35 rfl fun _ s=>aD (bw (1) (4) _ (by decide) (by decide) (by decide) (by decide)) (au.up (aJ (az (by decide) (by decide)) (az (by decide) (by decide))) 2 (by decide)),ck st k57 rfl fun _ s _ x11=>gJ (s.f 0 rfl) x11,ck st k35 rfl fun _ s=>aD (bw ((-1)) (2) _ (by decide) (by decide) (by decide) (by decide)) (au.up (aJ (az (by decide) (by decide)) (az (by decide) (by decide))) 2 (by decide)),ck st k35 rfl fun _ s=>aD (bw (1) (2) _ (by decide) (by decide) (by decide) (by decide)) (au.up (aJ (az (by decide) (by decide)) (az (by decide) (by decide))) 2 (by decide)),ck st Ix rfl fun _ s _ x12 _ x13 _ x14=>G7 x12 x13 x14,ra ah rfl rfl,trivial⟩ ?_
 intro a w9 hF bb hall hne
 have s0:=st
 replace st:=st.to bb
 obtain⟨vv10,hF,st⟩:=rS hall hF st 5 rfl rfl Rl.cl
 obtain⟨r12,rfl⟩:=Rq.fo (st.f 0 rfl).1
 obtain⟨_,e4,g4,rfl,ge4,o4⟩:=sS hall 6 4 rfl rfl
 replace st:=st.push o4.blk (Nat.le_trans s0.bel.size ge4) (s0.ne ge4)
 clear o4
 replace hF:=hF.add e4
 clear hall bb hne s0
 refine so st hF 0 0 1 ah rfl rfl rfl rfl fun w13 a st hF=>?_
 refine ns ?_
 refine E.rg 6 aF hF [16,17,18,19,20,21] [_,_,_,_,_,_] (by decide+kernel) rfl rfl rfl ⟨ck st k40 rfl fun _ s=>aD (bj (27) _ (by decide) (by decide)) (a9 (az (by decide) (by decide)) (by omega)),rb st ah 0 0 rfl,ck st B8 rfl fun _ s=>Bz (s.f 0 rfl),ck st k40 rfl fun _ s=>aD (bj (108) _ (by decide) (by decide)) (a9 (az (by decide) (by decide)) (by omega)),ck st k58 rfl fun _ s _ x18 _ x19=>cB x18 x19,ck st k57 rfl fun _ s _ x16 _ x20=>gJ x16 x20,trivial⟩ ?_
 intro a w14 hF bb hall
 replace st:=st.to bb
 obtain⟨vv15,hF,st⟩:=rS hall hF st 5 rfl rfl Rl.cl
 obtain⟨r17,rfl⟩:=Rq.fo (st.f 0 rfl).1
 clear hall bb
 refine so st hF 2 5 0 ah rfl rfl rfl rfl fun w18 a st hF=>?_
 refine nr ?_
 refine rs Tryz.results235 st hF 5 2 ah rfl rfl rfl ?_
 have bel:=st.bel
 exact⟨_,rfl,Rq.castM (st.f 0 rfl).1 (by unfold eR;rw[Rat.mul_comm ((108:Int):Rat)];rfl),bel⟩
theorem lq (v1:Value) (qt:Rat) (k:Nat) (w:World) (hT:bV w) (h1:Rq w v1 qt) (hl:au qt k) (hk:k≤20):
 Calls Tryz.prog 202 #[v1] w (bl w (bD qt)):=by
 have st:=St.start w
 refine go1 (nt:=10) Tryz.func202 rfl rfl rfl fun a hF=>?_
 refine wq ?_
 obtain⟨r2,rfl⟩:=Rq.fo h1
 refine bx st hF 0 rfl rfl fun g1 w1 a st hF=>?_
 refine S.alloc st hF ah rfl rfl fun g2 w3 a st hF=>?_
 refine ns ?_
 refine E.rg 7 aF hF [3,4,5,6,7,8,9] [_,_,_,_,_,_,_] (by decide+kernel) rfl rfl rfl ⟨rb st ah 1 1 rfl,ck st k78 rfl fun _ s=>zm (hT.below s.bel) ⟨(h1.below s.bel),hl⟩,rb st ah 1 1 rfl,ck st IW rfl fun _ s=>aD (oj _ (qt) k _ (h1.below s.bel) hl (by omega)) (oX hl),ck st k57 rfl fun _ s _ x4 _ x6=>gJ x4 x6,ck st k40 rfl fun _ s=>aD (bj (360) _ (by decide) (by decide)) (a9 (az (by decide) (by decide)) (by omega)),ck st AZ rfl fun _ s _ x7 _ x8=>CL x7 x8,trivial⟩ ?_
 intro a w4 hF bb hall
 replace st:=st.to bb
 obtain⟨vv5,hF,st⟩:=rS hall hF st 6 rfl rfl Rl.cl
 obtain⟨r7,rfl⟩:=Rq.fo (st.f 0 rfl).1
 clear hall bb
 refine so st hF 0 1 0 ah rfl rfl rfl rfl fun w8 a st hF=>?_
 refine nr ?_
 refine rs Tryz.results202 st hF 1 0 ah rfl rfl rfl ?_
 have bel:=st.bel
 exact⟨_,rfl,(st.f 0 rfl).1,bel⟩
theorem mh (v1:Value) (qt:Rat) (k:Nat) (w:World) (h1:Rq w v1 qt) (hl:au qt k) (hk:k≤20):
 Calls Tryz.prog 201 #[v1] w (bl w (mof qt pay)):=by
 have st:=St.start w
 refine go1 (nt:=6) Tryz.func201 rfl rfl rfl fun a hF=>?_
 refine wq ?_
 obtain⟨r2,rfl⟩:=Rq.fo h1
 refine bx st hF 0 rfl rfl fun g1 w1 a st hF=>?_
 refine S.alloc st hF ah rfl rfl fun g2 w3 a st hF=>?_
 refine ns ?_
 refine E.rg 3 aF hF [3,4,5] [_,_,_] (by decide+kernel) rfl rfl rfl ⟨rb st ah 1 1 rfl,ck st Gk rfl fun _ s=>ld,ck st Bj rfl fun _ s _ x4=>xE ⟨(h1.below s.bel),hl⟩ x4,trivial⟩ ?_
 intro a w4 hF bb hall
 replace st:=st.to bb
 obtain⟨vv5,hF,st⟩:=rS hall hF st 2 rfl rfl Rl.cl
 obtain⟨r7,rfl⟩:=Rq.fo (st.f 0 rfl).1
 clear hall bb
 refine so st hF 0 1 0 ah rfl rfl rfl rfl fun w8 a st hF=>?_
 refine nr ?_
 refine rs Tryz.results201 st hF 1 0 ah rfl rfl rfl ?_
 have bel:=st.bel
 exact⟨_,rfl,(st.f 0 rfl).1,bel⟩
theorem lA (v1:Value) (qt:Rat) (k:Nat) (w:World) (h1:Rq w v1 qt) (hl:au qt k) (hk:k≤1000):
 Calls Tryz.prog 237 #[v1] w (bl w (wi qt)):=by
 have st:=St.start w
 refine go1 (nt:=9) Tryz.func237 rfl rfl rfl fun a hF=>?_
 refine wq ?_
 obtain⟨r2,rfl⟩:=Rq.fo h1
 refine bx st hF 0 rfl rfl fun g1 w1 a st hF=>?_
 refine S.alloc st hF ah rfl rfl fun g2 w3 a st hF=>?_
 refine ns ?_
 refine E.rg 6 aF hF [3,4,5,6,7,8] [_,_,_,_,_,_] (by decide+kernel) rfl rfl rfl ⟨ck st k35 rfl fun _ s=>aD (bw (14) (360) _ (by decide) (by decide) (by decide) (by decide)) (au.up (aJ (az (by decide) (by decide)) (az (by decide) (by decide))) 2 (by decide)),rb st ah 1 1 rfl,ck st B8 rfl fun _ s=>Bz ⟨(h1.below s.bel),hl⟩,ck st k35 rfl fun _ s=>aD (bw (1) (1080) _ (by decide) (by decide) (by decide) (by decide)) (au.up (aJ (az (by decide) (by decide)) (az (by decide) (by decide))) 2 (by decide)),ck st k58 rfl fun _ s _ x5 _ x6=>cB x5 x6,ck st k57 rfl fun _ s _ x3 _ x7=>gJ x3 x7,trivial⟩ ?_
 intro a w4 hF bb hall
 replace st:=st.to bb
 obtain⟨vv5,hF,st⟩:=rS hall hF st 5 rfl rfl Rl.cl
 obtain⟨r7,rfl⟩:=Rq.fo (st.f 0 rfl).1
 clear hall bb
 refine so st hF 0 1 0 ah rfl rfl rfl rfl fun w8 a st hF=>?_
 refine nr ?_
 refine rs Tryz.results237 st hF 1 0 ah rfl rfl rfl ?_
 have bel:=st.bel
 exact⟨_,rfl,(st.f 0 rfl).1,bel⟩
theorem jR (v1:Value) (qt:Rat) (k:Nat) (w:World) (hT:bV w) (h1:Rq w v1 qt) (hl:au qt k) (hk:k≤300):
 Calls Tryz.prog 204 #[v1] w (bl w (lK qt)):=by
 have hpk:=iM qt
 have hsa:=gt (pk qt)
 have st:=St.start w
 refine go1 (nt:=18) Tryz.func204 rfl rfl rfl fun a hF=>?_
 refine wq ?_
 obtain⟨r2,rfl⟩:=Rq.fo h1
 refine bx st hF 0 rfl rfl fun g1 w1 a st hF=>?_
 refine S.alloc st hF ah rfl rfl fun g2 w3 a st hF=>?_
 refine ns ?_
 refine E.rga 8 aF hF [4,5,6,7,8,9,10,3] [_,_,_,_,_,_,_,kn w3 [.bool false,.slice none 0 0,.slice none 0 0]] [7] ⟨fun _ _ ⟨g,e,_,o⟩=>⟨g,e,o.lt⟩,trivial⟩ (by decide+kernel) rfl rfl rfl ⟨rb st ah 1 1 rfl,ck st IG rfl fun _ s=>bA (AM _ (qt) k _ (hT.below s.bel) (h1.below s.bel) hl (by omega)),ck st k35 rfl fun _ s=>aD (bw (spk (pk (qt)+1)-spk (pk (qt))) (225) _ (dW (pk (qt))).1 (dW (pk (qt))).2 (by decide) (by decide)) (au.up (aJ (az (dW (pk (qt))).1 (dW (pk (qt))).2) (az (by decide) (by decide))) 2 (by decide)),rb st ah 1 1 rfl,ck st qr rfl fun _ s=>qOf (hT.below s.bel) ⟨(h1.below s.bel),hl⟩,ck st Fo rfl fun _ s _ x8=>aD (lA _ (sof (qt)) (k+12) _ x8.1 x8.2 (by omega)) (lV x8.2),ck st k58 rfl fun _ s _ x6 _ x9=>cB x6 x9,ra ah rfl rfl,trivial⟩ ?_
 intro a w4 hF bb hall hne
 have s0:=st
 replace st:=st.to bb
 obtain⟨vv5,hF,st⟩:=rS hall hF st 6 rfl rfl Rl.cl
 obtain⟨r7,rfl⟩:=Rq.fo (st.f 0 rfl).1
 obtain⟨_,e3,g3,rfl,ge3,o3⟩:=sS hall 7 3 rfl rfl
 replace st:=st.push o3.blk (Nat.le_trans s0.bel.size ge3) (s0.ne ge3)
 clear o3
 replace hF:=hF.add e3
 clear hall bb hne s0
 refine so st hF 0 0 1 ah rfl rfl rfl rfl fun w8 a st hF=>?_
 refine ns ?_
 refine E.rg 7 aF hF [11,12,13,14,15,16,17] [_,_,_,_,_,_,_] (by decide+kernel) rfl rfl rfl ⟨ck st k40 rfl fun _ s=>aD (bj (360) _ (by decide) (by decide)) (a9 (az (by decide) (by decide)) (by omega)),ck st k76 rfl fun _ s=>lc,ck st k75 rfl fun _ s _ x11 _ x12=>m8 x11 x12,ck st k40 rfl fun _ s=>aD (bj (1) _ (by decide) (by decide)) (a9 (az (by decide) (by decide)) (by omega)),rb st ah 0 0 rfl,ck st k57 rfl fun _ s _ x14=>gJ x14 (s.f 0 rfl),ck st k58 rfl fun _ s _ x13 _ x16=>cB x13 x16,trivial⟩ ?_
 intro a w9 hF bb hall
 replace st:=st.to bb
 obtain⟨vv10,hF,st⟩:=rS hall hF st 6 rfl rfl Rl.cl
 obtain⟨r12,rfl⟩:=Rq.fo (st.f 0 rfl).1
 clear hall bb
 refine so st hF 1 3 0 ah rfl rfl rfl rfl fun w13 a st hF=>?_
 refine nr ?_
 refine rs Tryz.results204 st hF 3 1 ah rfl rfl rfl ?_
 have bel:=st.bel
 exact⟨_,rfl,(st.f 0 rfl).1,bel⟩
theorem li (v1:Value) (qt:Rat) (k:Nat) (w:World) (hT:bV w) (h1:Rq w v1 qt) (hl:au qt k) (hk:k≤300):
 Calls Tryz.prog 208 #[v1] w (bl w (mI qt)):=by
 have st:=St.start w
 refine go1 (nt:=23) Tryz.func208 rfl rfl rfl fun a hF=>?_
 refine wq ?_
 obtain⟨r2,rfl⟩:=Rq.fo h1
 refine bx st hF 0 rfl rfl fun g1 w1 a st hF=>?_
 refine S.alloc st hF ah rfl rfl fun g2 w3 a st hF=>?_
 refine nq ?_
 refine oL hF st 1 1 ah rfl rfl rfl rfl fun a hF=>?_
 refine S.ck st hF (rgc qr (aI (hF.at 0 rfl))) (qOf (hT.below st.bel) ⟨(h1.below st.bel),hl⟩) Rl.cl rfl fun vv5 w4 a st hF=>?_
 obtain⟨r7,rfl⟩:=Rq.fo (st.f 0 rfl).1
 refine S.new st hF 0 rfl ah rfl rfl rfl rfl rfl fun g3 w8 a st hF=>?_
 refine ns ?_
 refine E.rga 7 aF hF [7,8,9,10,11,12,4] [_,_,_,_,_,_,kn w8 [.bool false,.slice none 0 0,.slice none 0 0]] [6] ⟨fun _ _ ⟨g,e,_,o⟩=>⟨g,e,o.lt⟩,trivial⟩ (by decide+kernel) rfl rfl rfl ⟨rb st ah 0 0 rfl,ck st k35 rfl fun _ s=>aD (bw (573) (10) _ (by decide) (by decide) (by decide) (by decide)) (au.up (aJ (az (by decide) (by decide)) (az (by decide) (by decide))) 2 (by decide)),ck st k58 rfl fun _ s _ x8=>cB (s.f 0 rfl) x8,rb st ah 0 0 rfl,ck st Fo rfl fun _ s=>aD (lA _ (sof (qt)) (k+12) _ (s.f 0 rfl).1 (s.f 0 rfl).2 (by omega)) (lV (s.f 0 rfl).2),ck st k58 rfl fun _ s _ x9 _ x11=>cB x9 x11,ra ah rfl rfl,trivial⟩ ?_
 intro a w9 hF bb hall hne
 have s0:=st
 replace st:=st.to bb
 obtain⟨vv10,hF,st⟩:=rS hall hF st 5 rfl rfl Rl.cl
 obtain⟨r12,rfl⟩:=Rq.fo (st.f 0 rfl).1
 obtain⟨_,e4,g4,rfl,ge4,o4⟩:=sS hall 6 4 rfl rfl
 replace st:=st.push o4.blk (Nat.le_trans s0.bel.size ge4) (s0.ne ge4)
 clear o4
 replace hF:=hF.add e4
 clear hall bb hne s0
 refine so st hF 0 0 1 ah rfl rfl rfl rfl fun w13 a st hF=>?_
 refine ns ?_
 refine E.rg 10 aF hF [13,14,15,16,17,18,19,20,21,22] [_,_,_,_,_,_,_,_,_,_] (by decide+kernel) rfl rfl rfl ⟨rb st ah 6 3 rfl,ck st AY rfl fun _ s=>aD (jR _ (qt) k _ (hT.below s.bel) (h1.below s.bel) hl (by omega)) (jT hl),ck st k35 rfl fun _ s=>aD (bw (1) (360) _ (by decide) (by decide) (by decide) (by decide)) (au.up (aJ (az (by decide) (by decide)) (az (by decide) (by decide))) 2 (by decide)),ck st k58 rfl fun _ s _ x14 _ x15=>cB x14 x15,rb st ah 0 0 rfl,ck st k35 rfl fun _ s=>aD (bw (1) (360) _ (by decide) (by decide) (by decide) (by decide)) (au.up (aJ (az (by decide) (by decide)) (az (by decide) (by decide))) 2 (by decide)),ck st k58 rfl fun _ s _ x18=>cB (s.f 0 rfl) x18,ck st k58 rfl fun _ s _ x16 _ x19=>cB x16 x19,ck st k76 rfl fun _ s=>lc,ck st k58 rfl fun _ s _ x20 _ x21=>cB x20 x21,trivial⟩ ?_
 intro a w14 hF bb hall
 replace st:=st.to bb
 obtain⟨vv15,hF,st⟩:=rS hall hF st 9 rfl rfl Rl.cl
 obtain⟨r17,rfl⟩:=Rq.fo (st.f 0 rfl).1
 clear hall bb
 refine so st hF 2 6 0 ah rfl rfl rfl rfl fun w18 a st hF=>?_
 refine nr ?_
 refine rs Tryz.results208 st hF 6 2 ah rfl rfl rfl ?_
 have bel:=st.bel
 exact⟨_,rfl,(st.f 0 rfl).1,bel⟩
theorem wY (v1:Value) (qt:Rat) (k:Nat) (w:World) (h1:Rq w v1 (qt*(((1:Int):Rat)/((30:Int):Rat)))) (hl:au (qt*(((1:Int):Rat)/((30:Int):Rat))) k) (hk:k≤10000) (h0:0≤qt) (h3:qt<((360:Int):Rat)):Calls Tryz.prog 89 #[v1] w (aR w (.tuple #[.int .i64 (prt qt 12),.bool true])):=by
 have h:=kg v1 _ k w h1 hl hk
 rwa[(E9 h0 h3).1,(E9 h0 h3).2] at h
theorem my (v1:Value) (qt:Rat) (k:Nat) (w:World) (h1:Rq w v1 qt) (hl:au qt k) (hk:k≤300) (h0:0≤qt) (h3:qt<((360:Int):Rat)):
 Calls Tryz.prog 205 #[v1] w (bl w (mX qt)):=by
 have hpt:=ig (x:=qt) (n:=12) (by omega) h0 h3
 have st:=St.start w
 refine go1 (nt:=19) Tryz.func205 rfl rfl rfl fun a hF=>?_
 refine wq ?_
 obtain⟨r2,rfl⟩:=Rq.fo h1
 refine bx st hF 0 rfl rfl fun g1 w1 a st hF=>?_
 refine S.alloc st hF ah rfl rfl fun g2 w3 a st hF=>?_
 refine nq ?_
 refine oV hF (bh (Hz ao ao ao ao ao ao) (sP _ _ _ _ _ _ _)) rfl fun a hF=>?_
 refine S.new st hF 0 rfl H5 rfl rfl rfl rfl rfl fun g3 w4 a st hF=>?_
 refine ns ?_
 refine E.rg 9 aF hF [8,9,10,11,7,12,13,4,5] [_,_,_,_,.ex (.tuple #[.int .i64 (prt qt 12),.bool true]),.ex (.int .i64 (prt qt 12)),.ex (.bool true),.ex (.int .i64 (prt qt 12)),.ex (.bool true)] (by decide+kernel) rfl rfl rfl ⟨rb st ah 3 2 rfl,ck st k35 rfl fun _ s=>aD (bw (1) (30) _ (by decide) (by decide) (by decide) (by decide)) (au.up (aJ (az (by decide) (by decide)) (az (by decide) (by decide))) 2 (by decide)),ck st k58 rfl fun _ s _ x9=>cB ⟨(h1.below s.bel),hl⟩ x9,ck st k89 rfl fun _ s _ x10=>bA (wY _ qt (k+2) _ x10.1 x10.2 (by omega) h0 h3),(by intro a' w' hF' hb hd;have e11:=tE hd 0 rfl;exact dv0 (aP e11) rfl rfl rfl),(by intro a' w' hF' hb hd;have e7:=tE hd 0 rfl;exact dv0 (aW (v:= .int .i64 (prt qt 12)) e7 rfl) rfl rfl rfl),(by intro a' w' hF' hb hd;have e7:=tE hd 0 rfl;exact dv0 (aW (v:= .bool true) e7 rfl) rfl rfl rfl),(by intro a' w' hF' hb hd;have e12:=tE hd 0 rfl;exact dv0 (aO e12) rfl rfl rfl),(by intro a' w' hF' hb hd;have e13:=tE hd 0 rfl;exact dv0 (aO e13) rfl rfl rfl),trivial⟩ ?_
 intro a w5 hF bb hall
 replace st:=st.to bb
 replace hF:=rE hall hF 7 rfl rfl
 clear hall bb
 refine nq ?_
 refine oM hF 0 rfl rfl fun a hF=>?_
 refine oV hF (aq (hF.at 0 rfl) ao ab (ql (a:=prt qt 12) (b:=6) (by omega) (by omega))) rfl fun a hF=>?_
 refine oV hF (gS (hF.at 3 rfl) (hF.at 0 rfl) (Hf (by omega) (by omega))) rfl fun a hF=>?_
 refine oV hF (av (hF.at 0 rfl) (bF (v:= .int .i64 (fM (prt qt 12))) (st.bk 0 rfl) DE)) rfl fun a hF=>?_
 refine S.ck st hF (rgc k35 (aC (hF.at 0 rfl) ao)) (aD (bw (fM (prt qt 12)) (1800) _ (by have:=nB (prt qt 12);omega) (by have:=nB (prt qt 12);omega) (by decide) (by decide)) (au.up (aJ (az (by have:=nB (prt qt 12);omega) (by have:=nB (prt qt 12);omega)) (az (by decide) (by decide))) 2 (by decide))) Rl.cl rfl fun vv7 w6 a st hF=>?_
 obtain⟨r9,rfl⟩:=Rq.fo (st.f 0 rfl).1
 refine so st hF 1 8 0 ah rfl rfl rfl rfl fun w10 a st hF=>?_
 refine nr ?_
 refine rs Tryz.results205 st hF 8 1 ah rfl rfl rfl ?_
 have bel:=st.bel
 exact⟨_,rfl,(st.f 0 rfl).1,bel⟩
theorem kd (v1:Value) (qt:Rat) (xa xb xc xd:Int) (k:Nat) (w:World) (hT:bV w) (h1:Rq w v1 qt) (hl:au qt k) (hk:k≤300) (hxa0: -9223372036854775808≤xa) (hxa1:xa≤9223372036854775807) (hxb0: -9223372036854775808≤xb) (hxb1:xb≤9223372036854775807):
 Calls Tryz.prog 206 #[v1,.agg #[.int .i64 xa,.int .i64 xb,.int .i64 xc,.int .i64 xd]] w (bl w (iS qt (((xa:Int):Rat)/((xb:Int):Rat)))):=by
 have st:=St.start w
 refine go2 (nt:=28) Tryz.func206 rfl rfl rfl fun a hF=>?_
 refine wq ?_
 obtain⟨r2,rfl⟩:=Rq.fo h1
 refine bx st hF 0 rfl rfl fun g2 w1 a st hF=>?_
 refine bx st hF 2 rfl rfl fun g3 w3 a st hF=>?_
 refine S.alloc st hF ah rfl rfl fun g4 w4 a st hF=>?_
 refine nq ?_
 refine oL hF st 2 2 ah rfl rfl rfl rfl fun a hF=>?_
 refine S.ck st hF (rgc qr (aI (hF.at 0 rfl))) (qOf (hT.below st.bel) ⟨(h1.below st.bel),hl⟩) Rl.cl rfl fun vv6 w5 a st hF=>?_
 obtain⟨r8,rfl⟩:=Rq.fo (st.f 0 rfl).1
 refine S.ck st hF (rgc k35 (aC ao ao)) (aD (bw (1397) (3438) _ (by decide) (by decide) (by decide) (by decide)) (au.up (aJ (az (by decide) (by decide)) (az (by decide) (by decide))) 2 (by decide))) Rl.cl rfl fun vv10 w9 a st hF=>?_
 obtain⟨r12,rfl⟩:=Rq.fo (st.f 0 rfl).1
 refine S.ck st hF (rgc k58 (aC (hF.at 1 rfl) (hF.at 0 rfl))) (cB (st.f 1 rfl) (st.f 0 rfl)) Rl.cl rfl fun vv14 w13 a st hF=>?_
 obtain⟨r16,rfl⟩:=Rq.fo (st.f 0 rfl).1
 refine S.new st hF 0 rfl ah rfl rfl rfl rfl rfl fun g5 w17 a st hF=>?_
 refine nq ?_
 refine oL hF st 6 2 be rfl rfl rfl rfl fun a hF=>?_
 refine S.ck st hF (rgc IA (aI (hF.at 0 rfl))) (aD (rl xa xb xc xd _ hxa0 hxa1 hxb0 hxb1) (gc (n:=xa) (d:=xb) hxa0 hxa1 hxb0 hxb1)) Rl.cl rfl fun vv19 w18 a st hF=>?_
 obtain⟨r21,rfl⟩:=Rq.fo (st.f 0 rfl).1
 refine S.new st hF 0 rfl ah rfl rfl rfl rfl rfl fun g6 w22 a st hF=>?_
 refine ns ?_
 refine E.rga 8 aF hF [14,15,16,17,18,19,20,7] [_,_,_,_,_,_,_,kn w22 [.bool false,.slice none 0 0,.slice none 0 0]] [7] ⟨fun _ _ ⟨g,e,_,o⟩=>⟨g,e,o.lt⟩,trivial⟩ (by decide+kernel) rfl rfl rfl ⟨rb st ah 3 1 rfl,rb st ah 0 0 rfl,ck st qr rfl fun _ s=>qOf (hT.below s.bel) (s.f 0 rfl),ck st k58 rfl fun _ s _ x16=>cB (s.f 1 rfl) x16,rb st ah 0 0 rfl,ck st Fz rfl fun _ s=>vI (hT.below s.bel) (s.f 0 rfl),ck st k75 rfl fun _ s _ x17 _ x19=>m8 x17 x19,ra ah rfl rfl,trivial⟩ ?_
 intro a w23 hF bb hall hne
 have s0:=st
 replace st:=st.to bb
 obtain⟨vv24,hF,st⟩:=rS hall hF st 6 rfl rfl Rl.cl
 obtain⟨r26,rfl⟩:=Rq.fo (st.f 0 rfl).1
 obtain⟨_,e7,g7,rfl,ge7,o7⟩:=sS hall 7 7 rfl rfl
 replace st:=st.push o7.blk (Nat.le_trans s0.bel.size ge7) (s0.ne ge7)
 clear o7
 replace hF:=hF.add e7
 clear hall bb hne s0
 refine so st hF 0 0 1 ah rfl rfl rfl rfl fun w27 a st hF=>?_
 refine ns ?_
 refine E.rg 7 aF hF [21,22,23,24,25,26,27] [_,_,_,_,_,_,_] (by decide+kernel) rfl rfl rfl ⟨rb st ah 0 0 rfl,ck st s4 rfl fun _ s=>xp (s.f 0 rfl),rb st ah 5 2 rfl,ck st vY rfl fun _ s=>Bf (hT.below s.bel) (s.f 2 rfl),ck st Fz rfl fun _ s _ x24=>vI (hT.below s.bel) x24,ck st k75 rfl fun _ s _ x22 _ x25=>m8 x22 x25,ck st vY rfl fun _ s _ x26=>Bf (hT.below s.bel) x26,trivial⟩ ?_
 intro a w28 hF bb hall
 replace st:=st.to bb
 obtain⟨vv29,hF,st⟩:=rS hall hF st 6 rfl rfl Rl.cl
 obtain⟨r31,rfl⟩:=Rq.fo (st.f 0 rfl).1
 clear hall bb
 refine so st hF 3 11 0 ah rfl rfl rfl rfl fun w32 a st hF=>?_
 refine nr ?_
 refine rs Tryz.results206 st hF 11 3 ah rfl rfl rfl ?_
 have bel:=st.bel
 exact⟨_,rfl,Rq.castM (st.f 0 rfl).1 (AO _ _),bel⟩
theorem uf (v1:Value) (n xa xb xc xd:Int) (w:World) (hT:bV w) (h1:Rq w v1 (((1:Int):Rat)/((4:Int):Rat))) (hp:cj xa xb xc xd) (hn0: -4000000≤n) (hn1:n≤4000000):
 Calls Tryz.prog 164 #[.int .i64 n,.agg #[.int .i64 xa,.int .i64 xb,.int .i64 xc,.int .i64 xd],v1,.int .i64 1] w (bl w (gz n xa xb xc xd)):=by
 have st:=St.start w
 refine E.enter (nt:=56) (L:=[(0,.int .i64 n),(1,.agg #[.int .i64 xa,.int .i64 xb,.int .i64 xc,.int .i64 xd]),(2,v1),(3,.int .i64 1)]) Tryz.func164 rfl rfl rfl (a8 (i:=0) rfl (a8 (i:=1) rfl (a8 (i:=2) rfl (a8 (i:=3) rfl dY)))) ?_
 intro a hF
 refine wq ?_
 refine bx st hF 1 rfl rfl fun g5 w1 a st hF=>?_
 obtain⟨r3,rfl⟩:=Rq.fo h1
 refine bx st hF 3 rfl rfl fun g6 w2 a st hF=>?_
 refine S.alloc st hF ah rfl rfl fun g8 w4 a st hF=>?_
 refine nq ?_
 refine oM hF 3 rfl rfl fun a hF=>?_
 refine S.ck st hF (rgc k40 (aI (hF.at 0 rfl))) (aD (bj (n) _ (by omega) (by omega)) (a9 (az (by omega) (by omega)) (by omega))) Rl.cl rfl fun vv6 w5 a st hF=>?_
 obtain⟨r8,rfl⟩:=Rq.fo (st.f 0 rfl).1
 refine S.new st hF 0 rfl ah rfl rfl rfl rfl rfl fun g9 w9 a st hF=>?_
 refine ns ?_
 refine E.rga 6 aF hF [17,18,19,20,10,11] [_,_,_,_,kn w9 [.bool false,.slice none 0 0,.slice none 0 0],kn w9 [.bool false,.slice none 0 0,.slice none 0 0]] [4,5] ⟨fun _ _ ⟨g,e,_,o⟩=>⟨g,e,o.lt⟩,⟨fun _ _ ⟨g,e,_,o⟩=>⟨g,e,o.lt⟩,trivial⟩⟩ (by decide+kernel) rfl rfl rfl ⟨rb st ah 0 0 rfl,ck st FJ rfl fun _ s=>aD (mh _ (((n:Int):Rat)) 2 _ (s.f 0 rfl).1 (s.f 0 rfl).2 (by omega)) (gW (s.f 0 rfl).2 gX),rb st ah 0 0 rfl,ck st FQ rfl fun _ s=>aD (lq _ (((n:Int):Rat)) 2 _ (hT.below s.bel) (s.f 0 rfl).1 (s.f 0 rfl).2 (by omega)) (jO (s.f 0 rfl).2),ra ah rfl rfl,ra ah rfl rfl,trivial⟩ ?_
 intro a w10 hF bb hall hne
 have s0:=st
 replace st:=st.to bb
 obtain⟨vv11,hF,st⟩:=rS hall hF st 1 rfl rfl Rl.cl
 obtain⟨r13,rfl⟩:=Rq.fo (st.f 0 rfl).1
 obtain⟨vv14,hF,st⟩:=rS hall hF st 3 rfl rfl Rl.cl
 obtain⟨r16,rfl⟩:=Rq.fo (st.f 0 rfl).1
 obtain⟨_,e10,g10,rfl,ge10,o10⟩:=sS hall 4 10 rfl rfl
 replace st:=st.push o10.blk (Nat.le_trans s0.bel.size ge10) (s0.ne ge10)
 clear o10
 replace hF:=hF.add e10
 obtain⟨_,e11,g11,rfl,ge11,o11⟩:=sS hall 5 11 rfl rfl
 replace st:=st.push o11.blk (Nat.le_trans s0.bel.size ge11) (jI (fun(e:g10=g11)=>hne 4 5 10 11 rfl rfl (by decide) rfl rfl (by rw[e10,e11,e])) (s0.ne ge11))
 clear o11
 replace hF:=hF.add e11
 clear hall bb hne s0
 refine so st hF 1 1 3 ah rfl rfl rfl rfl fun w17 a st hF=>?_
 refine so st hF 0 0 2 ah rfl rfl rfl rfl fun w18 a st hF=>?_
 refine ns ?_
 refine E.rga 8 aF hF [21,22,23,24,25,26,27,12] [_,_,_,_,_,_,_,kn w18 [.bool false,.slice none 0 0,.slice none 0 0]] [7] ⟨fun _ _ ⟨g,e,_,o⟩=>⟨g,e,o.lt⟩,trivial⟩ (by decide+kernel) rfl rfl rfl ⟨ck st k51 rfl fun _ s=>bA (pU _),ck st wk rfl fun _ s=>aD (gp 463 20 45461 600 _ (by decide) (by decide) (by decide) (by decide)) (gc (n:=45461) (d:=600) (by decide) (by decide) (by decide) (by decide)),rb st be 9 5 rfl,ck st wk rfl fun _ s=>aD (gp xa xb xc xd _ (by have:=hp.c0;have:=hp.c1;have:=hp.b1;have:=hp.d1;omega) (by have:=hp.c0;have:=hp.c1;have:=hp.b1;have:=hp.d1;omega) (by have:=hp.d0;have:=hp.d1;have:=hp.b1;have:=hp.d1;omega) (by have:=hp.d0;have:=hp.d1;have:=hp.b1;have:=hp.d1;omega)) (gc (n:=xc) (d:=xd) (by have:=hp.c0;have:=hp.c1;have:=hp.b1;have:=hp.d1;omega) (by have:=hp.c0;have:=hp.c1;have:=hp.b1;have:=hp.d1;omega) (by have:=hp.d0;have:=hp.d1;have:=hp.b1;have:=hp.d1;omega) (by have:=hp.d0;have:=hp.d1;have:=hp.b1;have:=hp.d1;omega)),ck st k57 rfl fun _ s _ x22 _ x24=>gJ x22 x24,ck st k35 rfl fun _ s=>aD (bw (1) (360) _ (by decide) (by decide) (by decide) (by decide)) (au.up (aJ (az (by decide) (by decide)) (az (by decide) (by decide))) 2 (by decide)),ck st k58 rfl fun _ s _ x25 _ x26=>cB x25 x26,ra ah rfl rfl,trivial⟩ ?_
 intro a w19 hF bb hall hne
 have s0:=st
 replace st:=st.to bb
 obtain⟨vv20,hF,st⟩:=rS hall hF st 6 rfl rfl Rl.cl
 obtain⟨r22,rfl⟩:=Rq.fo (st.f 0 rfl).1
 obtain⟨_,e12,g12,rfl,ge12,o12⟩:=sS hall 7 12 rfl rfl
 replace st:=st.push o12.blk (Nat.le_trans s0.bel.size ge12) (s0.ne ge12)
 clear o12
 replace hF:=hF.add e12
 clear hall bb hne s0
 refine so st hF 0 0 1 ah rfl rfl rfl rfl fun w23 a st hF=>?_
 refine ns ?_
 refine E.rga 15 aF hF [28,29,30,31,32,33,34,35,36,37,38,39,40,41,13] [_,_,_,_,_,_,_,_,_,_,_,_,_,_,kn w23 [.bool false,.slice none 0 0,.slice none 0 0]] [14] ⟨fun _ _ ⟨g,e,_,o⟩=>⟨g,e,o.lt⟩,trivial⟩ (by decide+kernel) rfl rfl rfl ⟨rb st ah 10 5 rfl,rb st ah 3 2 rfl,ck st AY rfl fun _ s=>aD (jR _ (mof (((n:Int):Rat)) pay) 9 _ (hT.below s.bel) (s.f 2 rfl).1 (s.f 2 rfl).2 (by omega)) (jT (s.f 2 rfl).2),ck st k58 rfl fun _ s _ x30=>cB ⟨(h1.below s.bel),(gc (n:=1) (d:=4) (by decide) (by decide) (by decide) (by decide))⟩ x30,rb st ah 2 1 rfl,ck st Fg rfl fun _ s=>aD (my _ (bD (((n:Int):Rat))) 190 _ (s.f 1 rfl).1 (s.f 1 rfl).2 (by omega) (dv bE) (cW bE)) (l6 _),ck st k58 rfl fun _ s _ x31 _ x33=>cB x31 x33,rb st ah 2 1 rfl,rb st be 11 6 rfl,ck st GG rfl fun _ s=>aD (kd _ (bD (((n:Int):Rat))) xa xb xc xd 190 _ (hT.below s.bel) (s.f 1 rfl).1 (s.f 1 rfl).2 (by omega) (by have:=hp.a0;have:=hp.a1;have:=hp.b1;have:=hp.d1;omega) (by have:=hp.a0;have:=hp.a1;have:=hp.b1;have:=hp.d1;omega) (by have:=hp.b0;have:=hp.b1;have:=hp.b1;have:=hp.d1;omega) (by have:=hp.b0;have:=hp.b1;have:=hp.b1;have:=hp.d1;omega)) (mt (s.f 1 rfl).2 (gc (n:=xa) (d:=xb) (by have:=hp.a0;have:=hp.a1;have:=hp.b1;have:=hp.d1;omega) (by have:=hp.a0;have:=hp.a1;have:=hp.b1;have:=hp.d1;omega) (by have:=hp.b0;have:=hp.b1;have:=hp.b1;have:=hp.d1;omega) (by have:=hp.b0;have:=hp.b1;have:=hp.b1;have:=hp.d1;omega)) (by decide)),rm 15 rfl,ck st k40 rfl fun _ s=>aD (bj (1) _ (by decide) (by decide)) (a9 (az (by decide) (by decide)) (by omega)),ck st k58 rfl fun _ s _ x37 _ x39=>cB x37 x39,ck st k56 rfl fun _ s _ x34 _ x40=>o0 x34 x40,ra ah rfl rfl,trivial⟩ ?_
 intro a w24 hF bb hall hne
 have s0:=st
 replace st:=st.to bb
 obtain⟨vv25,hF,st⟩:=rS hall hF st 13 rfl rfl Rl.cl
 obtain⟨r27,rfl⟩:=Rq.fo (st.f 0 rfl).1
 obtain⟨_,e13,g13,rfl,ge13,o13⟩:=sS hall 14 13 rfl rfl
 replace st:=st.push o13.blk (Nat.le_trans s0.bel.size ge13) (s0.ne ge13)
 clear o13
 replace hF:=hF.add e13
 clear hall bb hne s0
 refine so st hF 0 0 1 ah rfl rfl rfl rfl fun w28 a st hF=>?_
 refine ns ?_
 refine E.rga 6 aF hF [42,43,44,45,46,14] [_,_,_,_,_,kn w28 [.bool false,.slice none 0 0,.slice none 0 0]] [5] ⟨fun _ _ ⟨g,e,_,o⟩=>⟨g,e,o.lt⟩,trivial⟩ (by decide+kernel) rfl rfl rfl ⟨ck st k35 rfl fun _ s=>aD (bw (1577917828) (1582237828) _ (by decide) (by decide) (by decide) (by decide)) (au.up (aJ (az (by decide) (by decide)) (az (by decide) (by decide))) 2 (by decide)),ck st k35 rfl fun _ s=>aD (bw (1) (360) _ (by decide) (by decide) (by decide) (by decide)) (au.up (aJ (az (by decide) (by decide)) (az (by decide) (by decide))) 2 (by decide)),ck st k58 rfl fun _ s _ x42 _ x43=>cB x42 x43,rb st ah 0 0 rfl,ck st k58 rfl fun _ s _ x44=>cB x44 (s.f 0 rfl),ra ah rfl rfl,trivial⟩ ?_
 intro a w29 hF bb hall hne
 have s0:=st
 replace st:=st.to bb
 obtain⟨vv30,hF,st⟩:=rS hall hF st 4 rfl rfl Rl.cl
 obtain⟨r32,rfl⟩:=Rq.fo (st.f 0 rfl).1
 obtain⟨_,e14,g14,rfl,ge14,o14⟩:=sS hall 5 14 rfl rfl
 replace st:=st.push o14.blk (Nat.le_trans s0.bel.size ge14) (s0.ne ge14)
 clear o14
 replace hF:=hF.add e14
 clear hall bb hne s0
 refine so st hF 0 0 1 ah rfl rfl rfl rfl fun w33 a st hF=>?_
 refine ns ?_
 refine E.rg 9 aF hF [47,48,49,50,51,52,53,54,55] [_,_,_,_,_,_,_,.of (fun w v=>iE w v [((n:Int):Rat),((1:Int):Rat)/((4:Int):Rat),((((45461:Int):Rat)/((600:Int):Rat))-(((xc:Int):Rat)/((xd:Int):Rat)))*(((1:Int):Rat)/((360:Int):Rat)), -(mI (mof (((n:Int):Rat)) pay)),((((1577917828:Int):Rat)/((1582237828:Int):Rat))*(((1:Int):Rat)/((360:Int):Rat)))*((((((1:Int):Rat)/((4:Int):Rat))*(lK (mof (((n:Int):Rat)) pay)))*(mX (bD (((n:Int):Rat)))))+((iS (bD (((n:Int):Rat))) (((xa:Int):Rat)/((xb:Int):Rat)))*(((1:Int):Rat))))]∧au (((n:Int):Rat)) (2)∧au (((1:Int):Rat)/((4:Int):Rat)) (2)∧au (((((45461:Int):Rat)/((600:Int):Rat))-(((xc:Int):Rat)/((xd:Int):Rat)))*(((1:Int):Rat)/((360:Int):Rat))) (7)∧au (-(mI (mof (((n:Int):Rat)) pay))) (127)∧au (((((1577917828:Int):Rat)/((1582237828:Int):Rat))*(((1:Int):Rat)/((360:Int):Rat)))*((((((1:Int):Rat)/((4:Int):Rat))*(lK (mof (((n:Int):Rat)) pay)))*(mX (bD (((n:Int):Rat)))))+((iS (bD (((n:Int):Rat))) (((xa:Int):Rat)/((xb:Int):Rat)))*(((1:Int):Rat))))) (579)) (fun w w' v h hb=>⟨iE.mono _ w w' v h.1 hb,h.2⟩),_] (by decide+kernel) rfl rfl rfl ⟨rb st ah 10 5 rfl,rb st ah 14 7 rfl,rb st ah 4 2 rfl,rb st ah 7 4 rfl,ck st GE rfl fun _ s=>aD (li _ (mof (((n:Int):Rat)) pay) 9 _ (hT.below s.bel) (s.f 4 rfl).1 (s.f 4 rfl).2 (by omega)) (oJ (s.f 4 rfl).2),ck st s4 rfl fun _ s _ x51=>xp x51,rb st ah 0 0 rfl,(by intro a' w' hF' hb hd;have e47:=tE hd 0 rfl;have e48:=tE hd 1 rfl;have e49:=tE hd 2 rfl;obtain⟨v52_0,e52,h52_1⟩:=tH hd 3 rfl;have e53:=tE hd 4 rfl;obtain⟨vq,w2,hr,bb,hq⟩:=t7 ((st.f 5 rfl).below hb).1 (h1.below (ar st.bel hb)) ((st.f 2 rfl).below hb).1 h52_1.1 ((st.f 0 rfl).below hb).1;exact ce (bm rfl) (bH.vals (cY (Cu e47 e48 e49 e52 e53) hr) ⟨⟨hq,((st.f 5 rfl).below hb).2,(gc (n:=1) (d:=4) (by decide) (by decide) (by decide) (by decide)),((st.f 2 rfl).below hb).2,h52_1.2,((st.f 0 rfl).below hb).2⟩,bb,(fun h=>absurd h (by decide))⟩)),ck st E0 rfl fun _ s _ x54=>aD (CM _ (((n:Int):Rat)) (((1:Int):Rat)/((4:Int):Rat)) (((((45461:Int):Rat)/((600:Int):Rat))-(((xc:Int):Rat)/((xd:Int):Rat)))*(((1:Int):Rat)/((360:Int):Rat))) (-(mI (mof (((n:Int):Rat)) pay))) (((((1577917828:Int):Rat)/((1582237828:Int):Rat))*(((1:Int):Rat)/((360:Int):Rat)))*((((((1:Int):Rat)/((4:Int):Rat))*(lK (mof (((n:Int):Rat)) pay)))*(mX (bD (((n:Int):Rat)))))+((iS (bD (((n:Int):Rat))) (((xa:Int):Rat)/((xb:Int):Rat)))*(((1:Int):Rat))))) (max (max (max 2 7) 127) 579) _ x54.1 (x54.2.1.up _ (by omega)) (x54.2.2.1.up _ (by omega)) (x54.2.2.2.1.up _ (by omega)) (x54.2.2.2.2.1.up _ (by omega)) (x54.2.2.2.2.2.up _ (by omega)) (by omega)) (bp (bp (bp (bp x54.2.1 x54.2.2.1) x54.2.2.2.1) x54.2.2.2.2.1) x54.2.2.2.2.2),trivial⟩ ?_
 intro a w34 hF bb hall
 replace st:=st.to bb
 obtain⟨vv35,hF,st⟩:=rS hall hF st 8 rfl rfl Rl.cl
 obtain⟨r37,rfl⟩:=Rq.fo (st.f 0 rfl).1
 clear hall bb
 refine so st hF 6 14 0 ah rfl rfl rfl rfl fun w38 a st hF=>?_
 refine nr ?_
 refine rs Tryz.results164 st hF 14 6 ah rfl rfl rfl ?_
 have bel:=st.bel
 exact⟨_,rfl,Rq.castM (st.f 0 rfl).1 (tL _ _ _ 1 1 _ rfl),bel⟩
theorem ub (v1:Value) (n xa xb xc xd:Int) (w:World) (hT:bV w) (h1:Rq w v1 (((3:Int):Rat)/((4:Int):Rat))) (hp:cj xa xb xc xd) (hn0: -4000000≤n) (hn1:n≤4000000):
 Calls Tryz.prog 164 #[.int .i64 n,.agg #[.int .i64 xa,.int .i64 xb,.int .i64 xc,.int .i64 xd],v1,.int .i64 (-1)] w (bl w (gL n xa xb xc xd)):=by
 have st:=St.start w
 refine E.enter (nt:=56) (L:=[(0,.int .i64 n),(1,.agg #[.int .i64 xa,.int .i64 xb,.int .i64 xc,.int .i64 xd]),(2,v1),(3,.int .i64 (-1))]) Tryz.func164 rfl rfl rfl (a8 (i:=0) rfl (a8 (i:=1) rfl (a8 (i:=2) rfl (a8 (i:=3) rfl dY)))) ?_
 intro a hF
 refine wq ?_
 refine bx st hF 1 rfl rfl fun g5 w1 a st hF=>?_
 obtain⟨r3,rfl⟩:=Rq.fo h1
 refine bx st hF 3 rfl rfl fun g6 w2 a st hF=>?_
 refine S.alloc st hF ah rfl rfl fun g8 w4 a st hF=>?_
 refine nq ?_
 refine oM hF 3 rfl rfl fun a hF=>?_
 refine S.ck st hF (rgc k40 (aI (hF.at 0 rfl))) (aD (bj (n) _ (by omega) (by omega)) (a9 (az (by omega) (by omega)) (by omega))) Rl.cl rfl fun vv6 w5 a st hF=>?_
 obtain⟨r8,rfl⟩:=Rq.fo (st.f 0 rfl).1
 refine S.new st hF 0 rfl ah rfl rfl rfl rfl rfl fun g9 w9 a st hF=>?_
 refine ns ?_
 refine E.rga 6 aF hF [17,18,19,20,10,11] [_,_,_,_,kn w9 [.bool false,.slice none 0 0,.slice none 0 0],kn w9 [.bool false,.slice none 0 0,.slice none 0 0]] [4,5] ⟨fun _ _ ⟨g,e,_,o⟩=>⟨g,e,o.lt⟩,⟨fun _ _ ⟨g,e,_,o⟩=>⟨g,e,o.lt⟩,trivial⟩⟩ (by decide+kernel) rfl rfl rfl ⟨rb st ah 0 0 rfl,ck st FJ rfl fun _ s=>aD (mh _ (((n:Int):Rat)) 2 _ (s.f 0 rfl).1 (s.f 0 rfl).2 (by omega)) (gW (s.f 0 rfl).2 gX),rb st ah 0 0 rfl,ck st FQ rfl fun _ s=>aD (lq _ (((n:Int):Rat)) 2 _ (hT.below s.bel) (s.f 0 rfl).1 (s.f 0 rfl).2 (by omega)) (jO (s.f 0 rfl).2),ra ah rfl rfl,ra ah rfl rfl,trivial⟩ ?_
 intro a w10 hF bb hall hne
 have s0:=st
 replace st:=st.to bb
 obtain⟨vv11,hF,st⟩:=rS hall hF st 1 rfl rfl Rl.cl
 obtain⟨r13,rfl⟩:=Rq.fo (st.f 0 rfl).1
 obtain⟨vv14,hF,st⟩:=rS hall hF st 3 rfl rfl Rl.cl
 obtain⟨r16,rfl⟩:=Rq.fo (st.f 0 rfl).1
 obtain⟨_,e10,g10,rfl,ge10,o10⟩:=sS hall 4 10 rfl rfl
 replace st:=st.push o10.blk (Nat.le_trans s0.bel.size ge10) (s0.ne ge10)
 clear o10
 replace hF:=hF.add e10
 obtain⟨_,e11,g11,rfl,ge11,o11⟩:=sS hall 5 11 rfl rfl
 replace st:=st.push o11.blk (Nat.le_trans s0.bel.size ge11) (jI (fun(e:g10=g11)=>hne 4 5 10 11 rfl rfl (by decide) rfl rfl (by rw[e10,e11,e])) (s0.ne ge11))
 clear o11
 replace hF:=hF.add e11
 clear hall bb hne s0
 refine so st hF 1 1 3 ah rfl rfl rfl rfl fun w17 a st hF=>?_
 refine so st hF 0 0 2 ah rfl rfl rfl rfl fun w18 a st hF=>?_
 refine ns ?_
 refine E.rga 8 aF hF [21,22,23,24,25,26,27,12] [_,_,_,_,_,_,_,kn w18 [.bool false,.slice none 0 0,.slice none 0 0]] [7] ⟨fun _ _ ⟨g,e,_,o⟩=>⟨g,e,o.lt⟩,trivial⟩ (by decide+kernel) rfl rfl rfl ⟨ck st k51 rfl fun _ s=>bA (pU _),ck st wk rfl fun _ s=>aD (gp 463 20 45461 600 _ (by decide) (by decide) (by decide) (by decide)) (gc (n:=45461) (d:=600) (by decide) (by decide) (by decide) (by decide)),rb st be 9 5 rfl,ck st wk rfl fun _ s=>aD (gp xa xb xc xd _ (by have:=hp.c0;have:=hp.c1;have:=hp.b1;have:=hp.d1;omega) (by have:=hp.c0;have:=hp.c1;have:=hp.b1;have:=hp.d1;omega) (by have:=hp.d0;have:=hp.d1;have:=hp.b1;have:=hp.d1;omega) (by have:=hp.d0;have:=hp.d1;have:=hp.b1;have:=hp.d1;omega)) (gc (n:=xc) (d:=xd) (by have:=hp.c0;have:=hp.c1;have:=hp.b1;have:=hp.d1;omega) (by have:=hp.c0;have:=hp.c1;have:=hp.b1;have:=hp.d1;omega) (by have:=hp.d0;have:=hp.d1;have:=hp.b1;have:=hp.d1;omega) (by have:=hp.d0;have:=hp.d1;have:=hp.b1;have:=hp.d1;omega)),ck st k57 rfl fun _ s _ x22 _ x24=>gJ x22 x24,ck st k35 rfl fun _ s=>aD (bw (1) (360) _ (by decide) (by decide) (by decide) (by decide)) (au.up (aJ (az (by decide) (by decide)) (az (by decide) (by decide))) 2 (by decide)),ck st k58 rfl fun _ s _ x25 _ x26=>cB x25 x26,ra ah rfl rfl,trivial⟩ ?_
 intro a w19 hF bb hall hne
 have s0:=st
 replace st:=st.to bb
 obtain⟨vv20,hF,st⟩:=rS hall hF st 6 rfl rfl Rl.cl
 obtain⟨r22,rfl⟩:=Rq.fo (st.f 0 rfl).1
 obtain⟨_,e12,g12,rfl,ge12,o12⟩:=sS hall 7 12 rfl rfl
 replace st:=st.push o12.blk (Nat.le_trans s0.bel.size ge12) (s0.ne ge12)
 clear o12
 replace hF:=hF.add e12
 clear hall bb hne s0
 refine so st hF 0 0 1 ah rfl rfl rfl rfl fun w23 a st hF=>?_
 refine ns ?_
 refine E.rga 15 aF hF [28,29,30,31,32,33,34,35,36,37,38,39,40,41,13] [_,_,_,_,_,_,_,_,_,_,_,_,_,_,kn w23 [.bool false,.slice none 0 0,.slice none 0 0]] [14] ⟨fun _ _ ⟨g,e,_,o⟩=>⟨g,e,o.lt⟩,trivial⟩ (by decide+kernel) rfl rfl rfl ⟨rb st ah 10 5 rfl,rb st ah 3 2 rfl,ck st AY rfl fun _ s=>aD (jR _ (mof (((n:Int):Rat)) pay) 9 _ (hT.below s.bel) (s.f 2 rfl).1 (s.f 2 rfl).2 (by omega)) (jT (s.f 2 rfl).2),ck st k58 rfl fun _ s _ x30=>cB ⟨(h1.below s.bel),(gc (n:=3) (d:=4) (by decide) (by decide) (by decide) (by decide))⟩ x30,rb st ah 2 1 rfl,ck st Fg rfl fun _ s=>aD (my _ (bD (((n:Int):Rat))) 190 _ (s.f 1 rfl).1 (s.f 1 rfl).2 (by omega) (dv bE) (cW bE)) (l6 _),ck st k58 rfl fun _ s _ x31 _ x33=>cB x31 x33,rb st ah 2 1 rfl,rb st be 11 6 rfl,ck st GG rfl fun _ s=>aD (kd _ (bD (((n:Int):Rat))) xa xb xc xd 190 _ (hT.below s.bel) (s.f 1 rfl).1 (s.f 1 rfl).2 (by omega) (by have:=hp.a0;have:=hp.a1;have:=hp.b1;have:=hp.d1;omega) (by have:=hp.a0;have:=hp.a1;have:=hp.b1;have:=hp.d1;omega) (by have:=hp.b0;have:=hp.b1;have:=hp.b1;have:=hp.d1;omega) (by have:=hp.b0;have:=hp.b1;have:=hp.b1;have:=hp.d1;omega)) (mt (s.f 1 rfl).2 (gc (n:=xa) (d:=xb) (by have:=hp.a0;have:=hp.a1;have:=hp.b1;have:=hp.d1;omega) (by have:=hp.a0;have:=hp.a1;have:=hp.b1;have:=hp.d1;omega) (by have:=hp.b0;have:=hp.b1;have:=hp.b1;have:=hp.d1;omega) (by have:=hp.b0;have:=hp.b1;have:=hp.b1;have:=hp.d1;omega)) (by decide)),rm 15 rfl,ck st k40 rfl fun _ s=>aD (bj (-1) _ (by decide) (by decide)) (a9 (az (by decide) (by decide)) (by omega)),ck st k58 rfl fun _ s _ x37 _ x39=>cB x37 x39,ck st k56 rfl fun _ s _ x34 _ x40=>o0 x34 x40,ra ah rfl rfl,trivial⟩ ?_
 intro a w24 hF bb hall hne
 have s0:=st
 replace st:=st.to bb
 obtain⟨vv25,hF,st⟩:=rS hall hF st 13 rfl rfl Rl.cl
 obtain⟨r27,rfl⟩:=Rq.fo (st.f 0 rfl).1
 obtain⟨_,e13,g13,rfl,ge13,o13⟩:=sS hall 14 13 rfl rfl
 replace st:=st.push o13.blk (Nat.le_trans s0.bel.size ge13) (s0.ne ge13)
 clear o13
 replace hF:=hF.add e13
 clear hall bb hne s0
 refine so st hF 0 0 1 ah rfl rfl rfl rfl fun w28 a st hF=>?_
 refine ns ?_
 refine E.rga 6 aF hF [42,43,44,45,46,14] [_,_,_,_,_,kn w28 [.bool false,.slice none 0 0,.slice none 0 0]] [5] ⟨fun _ _ ⟨g,e,_,o⟩=>⟨g,e,o.lt⟩,trivial⟩ (by decide+kernel) rfl rfl rfl ⟨ck st k35 rfl fun _ s=>aD (bw (1577917828) (1582237828) _ (by decide) (by decide) (by decide) (by decide)) (au.up (aJ (az (by decide) (by decide)) (az (by decide) (by decide))) 2 (by decide)),ck st k35 rfl fun _ s=>aD (bw (1) (360) _ (by decide) (by decide) (by decide) (by decide)) (au.up (aJ (az (by decide) (by decide)) (az (by decide) (by decide))) 2 (by decide)),ck st k58 rfl fun _ s _ x42 _ x43=>cB x42 x43,rb st ah 0 0 rfl,ck st k58 rfl fun _ s _ x44=>cB x44 (s.f 0 rfl),ra ah rfl rfl,trivial⟩ ?_
 intro a w29 hF bb hall hne
 have s0:=st
 replace st:=st.to bb
 obtain⟨vv30,hF,st⟩:=rS hall hF st 4 rfl rfl Rl.cl
 obtain⟨r32,rfl⟩:=Rq.fo (st.f 0 rfl).1
 obtain⟨_,e14,g14,rfl,ge14,o14⟩:=sS hall 5 14 rfl rfl
 replace st:=st.push o14.blk (Nat.le_trans s0.bel.size ge14) (s0.ne ge14)
 clear o14
 replace hF:=hF.add e14
 clear hall bb hne s0
 refine so st hF 0 0 1 ah rfl rfl rfl rfl fun w33 a st hF=>?_
 refine ns ?_
 refine E.rg 9 aF hF [47,48,49,50,51,52,53,54,55] [_,_,_,_,_,_,_,.of (fun w v=>iE w v [((n:Int):Rat),((3:Int):Rat)/((4:Int):Rat),((((45461:Int):Rat)/((600:Int):Rat))-(((xc:Int):Rat)/((xd:Int):Rat)))*(((1:Int):Rat)/((360:Int):Rat)), -(mI (mof (((n:Int):Rat)) pay)),((((1577917828:Int):Rat)/((1582237828:Int):Rat))*(((1:Int):Rat)/((360:Int):Rat)))*((((((3:Int):Rat)/((4:Int):Rat))*(lK (mof (((n:Int):Rat)) pay)))*(mX (bD (((n:Int):Rat)))))+((iS (bD (((n:Int):Rat))) (((xa:Int):Rat)/((xb:Int):Rat)))*(((-1:Int):Rat))))]∧au (((n:Int):Rat)) (2)∧au (((3:Int):Rat)/((4:Int):Rat)) (2)∧au (((((45461:Int):Rat)/((600:Int):Rat))-(((xc:Int):Rat)/((xd:Int):Rat)))*(((1:Int):Rat)/((360:Int):Rat))) (7)∧au (-(mI (mof (((n:Int):Rat)) pay))) (127)∧au (((((1577917828:Int):Rat)/((1582237828:Int):Rat))*(((1:Int):Rat)/((360:Int):Rat)))*((((((3:Int):Rat)/((4:Int):Rat))*(lK (mof (((n:Int):Rat)) pay)))*(mX (bD (((n:Int):Rat)))))+((iS (bD (((n:Int):Rat))) (((xa:Int):Rat)/((xb:Int):Rat)))*(((-1:Int):Rat))))) (579)) (fun w w' v h hb=>⟨iE.mono _ w w' v h.1 hb,h.2⟩),_] (by decide+kernel) rfl rfl rfl ⟨rb st ah 10 5 rfl,rb st ah 14 7 rfl,rb st ah 4 2 rfl,rb st ah 7 4 rfl,ck st GE rfl fun _ s=>aD (li _ (mof (((n:Int):Rat)) pay) 9 _ (hT.below s.bel) (s.f 4 rfl).1 (s.f 4 rfl).2 (by omega)) (oJ (s.f 4 rfl).2),ck st s4 rfl fun _ s _ x51=>xp x51,rb st ah 0 0 rfl,(by intro a' w' hF' hb hd;have e47:=tE hd 0 rfl;have e48:=tE hd 1 rfl;have e49:=tE hd 2 rfl;obtain⟨v52_0,e52,h52_1⟩:=tH hd 3 rfl;have e53:=tE hd 4 rfl;obtain⟨vq,w2,hr,bb,hq⟩:=t7 ((st.f 5 rfl).below hb).1 (h1.below (ar st.bel hb)) ((st.f 2 rfl).below hb).1 h52_1.1 ((st.f 0 rfl).below hb).1;exact ce (bm rfl) (bH.vals (cY (Cu e47 e48 e49 e52 e53) hr) ⟨⟨hq,((st.f 5 rfl).below hb).2,(gc (n:=3) (d:=4) (by decide) (by decide) (by decide) (by decide)),((st.f 2 rfl).below hb).2,h52_1.2,((st.f 0 rfl).below hb).2⟩,bb,(fun h=>absurd h (by decide))⟩)),ck st E0 rfl fun _ s _ x54=>aD (CM _ (((n:Int):Rat)) (((3:Int):Rat)/((4:Int):Rat)) (((((45461:Int):Rat)/((600:Int):Rat))-(((xc:Int):Rat)/((xd:Int):Rat)))*(((1:Int):Rat)/((360:Int):Rat))) (-(mI (mof (((n:Int):Rat)) pay))) (((((1577917828:Int):Rat)/((1582237828:Int):Rat))*(((1:Int):Rat)/((360:Int):Rat)))*((((((3:Int):Rat)/((4:Int):Rat))*(lK (mof (((n:Int):Rat)) pay)))*(mX (bD (((n:Int):Rat)))))+((iS (bD (((n:Int):Rat))) (((xa:Int):Rat)/((xb:Int):Rat)))*(((-1:Int):Rat))))) (max (max (max 2 7) 127) 579) _ x54.1 (x54.2.1.up _ (by omega)) (x54.2.2.1.up _ (by omega)) (x54.2.2.2.1.up _ (by omega)) (x54.2.2.2.2.1.up _ (by omega)) (x54.2.2.2.2.2.up _ (by omega)) (by omega)) (bp (bp (bp (bp x54.2.1 x54.2.2.1) x54.2.2.2.1) x54.2.2.2.2.1) x54.2.2.2.2.2),trivial⟩ ?_
 intro a w34 hF bb hall
 replace st:=st.to bb
 obtain⟨vv35,hF,st⟩:=rS hall hF st 8 rfl rfl Rl.cl
 obtain⟨r37,rfl⟩:=Rq.fo (st.f 0 rfl).1
 clear hall bb
 refine so st hF 6 14 0 ah rfl rfl rfl rfl fun w38 a st hF=>?_
 refine nr ?_
 refine rs Tryz.results164 st hF 14 6 ah rfl rfl rfl ?_
 have bel:=st.bel
 exact⟨_,rfl,Rq.castM (st.f 0 rfl).1 (tL _ _ _ 3 (-1) _ rfl),bel⟩
theorem xC (n xa xb xc xd:Int) (w:World) (hT:bV w) (hp:cj xa xb xc xd) (hn0: -4000000≤n) (hn1:n≤4000000):
 Calls Tryz.prog 114 #[.int .i64 n,.agg #[.int .i64 xa,.int .i64 xb,.int .i64 xc,.int .i64 xd]] w (bl w (gz n xa xb xc xd)):=by
 have st:=St.start w
 refine go2 (nt:=9) Tryz.func114 rfl rfl rfl fun a hF=>?_
 refine wq ?_
 refine bx st hF 1 rfl rfl fun g3 w1 a st hF=>?_
 refine S.alloc st hF ah rfl rfl fun g4 w2 a st hF=>?_
 refine ns ?_
 refine E.rg 4 aF hF [5,6,7,8] [_,_,_,_] (by decide+kernel) rfl rfl rfl ⟨rm 2 rfl,rb st be 1 1 rfl,ck st k35 rfl fun _ s=>aD (bw (1) (4) _ (by decide) (by decide) (by decide) (by decide)) (au.up (aJ (az (by decide) (by decide)) (az (by decide) (by decide))) 2 (by decide)),ck st Fm rfl fun _ s _ x7=>aD (uf _ n xa xb xc xd _ (hT.below s.bel) x7.1 (by first|assumption|exact⟨by omega,by omega,by omega,by omega,by omega,by omega,by omega,by omega⟩) (by omega) (by omega)) (qj (by first|assumption|exact⟨by omega,by omega,by omega,by omega,by omega,by omega,by omega,by omega⟩) (by omega) (by omega)),trivial⟩ ?_
 intro a w3 hF bb hall
 replace st:=st.to bb
 obtain⟨vv4,hF,st⟩:=rS hall hF st 3 rfl rfl Rl.cl
 obtain⟨r6,rfl⟩:=Rq.fo (st.f 0 rfl).1
 clear hall bb
 refine so st hF 0 1 0 ah rfl rfl rfl rfl fun w7 a st hF=>?_
 refine nr ?_
 refine rs Tryz.results114 st hF 1 0 ah rfl rfl rfl ?_
 have bel:=st.bel
 exact⟨_,rfl,(st.f 0 rfl).1,bel⟩
theorem wn (n xa xb xc xd:Int) (w:World) (hT:bV w) (hp:cj xa xb xc xd) (hn0: -4000000≤n) (hn1:n≤4000000):
 Calls Tryz.prog 115 #[.int .i64 n,.agg #[.int .i64 xa,.int .i64 xb,.int .i64 xc,.int .i64 xd]] w (bl w (gL n xa xb xc xd)):=by
 have st:=St.start w
 refine go2 (nt:=9) Tryz.func115 rfl rfl rfl fun a hF=>?_
 refine wq ?_
 refine bx st hF 1 rfl rfl fun g3 w1 a st hF=>?_
 refine S.alloc st hF ah rfl rfl fun g4 w2 a st hF=>?_
 refine ns ?_
 refine E.rg 4 aF hF [5,6,7,8] [_,_,_,_] (by decide+kernel) rfl rfl rfl ⟨rm 2 rfl,rb st be 1 1 rfl,ck st k35 rfl fun _ s=>aD (bw (3) (4) _ (by decide) (by decide) (by decide) (by decide)) (au.up (aJ (az (by decide) (by decide)) (az (by decide) (by decide))) 2 (by decide)),ck st Fm rfl fun _ s _ x7=>aD (ub _ n xa xb xc xd _ (hT.below s.bel) x7.1 (by first|assumption|exact⟨by omega,by omega,by omega,by omega,by omega,by omega,by omega,by omega⟩) (by omega) (by omega)) (qb (by first|assumption|exact⟨by omega,by omega,by omega,by omega,by omega,by omega,by omega,by omega⟩) (by omega) (by omega)),trivial⟩ ?_
 intro a w3 hF bb hall
 replace st:=st.to bb
 obtain⟨vv4,hF,st⟩:=rS hall hF st 3 rfl rfl Rl.cl
 obtain⟨r6,rfl⟩:=Rq.fo (st.f 0 rfl).1
 clear hall bb
 refine so st hF 0 1 0 ah rfl rfl rfl rfl fun w7 a st hF=>?_
 refine nr ?_
 refine rs Tryz.results115 st hF 1 0 ah rfl rfl rfl ?_
 have bel:=st.bel
 exact⟨_,rfl,(st.f 0 rfl).1,bel⟩
theorem mg (n xa xb xc xd:Int) (w:World) (hT:bV w) (hp:cj xa xb xc xd) (hn0: -4000000≤n) (hn1:n≤4000000):
 Calls Tryz.prog 53 #[.int .i64 n,.agg #[.int .i64 xa,.int .i64 xb,.int .i64 xc,.int .i64 xd]] w (bl w (cz (gz n xa xb xc xd))):=by
 have st:=St.start w
 refine go2 (nt:=9) Tryz.func53 rfl rfl rfl fun a hF=>?_
 refine wq ?_
 refine bx st hF 1 rfl rfl fun g3 w1 a st hF=>?_
 refine S.alloc st hF ah rfl rfl fun g4 w2 a st hF=>?_
 refine nq ?_
 refine oM hF 2 rfl rfl fun a hF=>?_
 refine oL hF st 2 1 be rfl rfl rfl rfl fun a hF=>?_
 refine S.ck st hF (rgc I0 (aC (hF.at 1 rfl) (hF.at 0 rfl))) (aD (xC n xa xb xc xd _ (hT.below st.bel) (by first|assumption|exact⟨by omega,by omega,by omega,by omega,by omega,by omega,by omega,by omega⟩) (by omega) (by omega)) (qj (by first|assumption|exact⟨by omega,by omega,by omega,by omega,by omega,by omega,by omega,by omega⟩) (by omega) (by omega))) Rl.cl rfl fun vv4 w3 a st hF=>?_
 obtain⟨r6,rfl⟩:=Rq.fo (st.f 0 rfl).1
 refine S.ck st hF (rgc k55 (aI (hF.at 0 rfl))) (aD (kO _ _ 90 _ (st.f 0 rfl).1 (st.f 0 rfl).2 (by omega)) (iu (by first|assumption|exact⟨by omega,by omega,by omega,by omega,by omega,by omega,by omega,by omega⟩) (by omega) (by omega))) Rl.cl rfl fun vv8 w7 a st hF=>?_
 obtain⟨r10,rfl⟩:=Rq.fo (st.f 0 rfl).1
 refine so st hF 0 4 0 ah rfl rfl rfl rfl fun w11 a st hF=>?_
 refine nr ?_
 refine rs Tryz.results53 st hF 4 0 ah rfl rfl rfl ?_
 have bel:=st.bel
 exact⟨_,rfl,(st.f 0 rfl).1,bel⟩
theorem mP (n xa xb xc xd:Int) (w:World) (hT:bV w) (hp:cj xa xb xc xd) (hn0: -4000000≤n) (hn1:n≤4000000):
 Calls Tryz.prog 54 #[.int .i64 n,.agg #[.int .i64 xa,.int .i64 xb,.int .i64 xc,.int .i64 xd]] w (bl w (cz (gL n xa xb xc xd))):=by
 have st:=St.start w
 refine go2 (nt:=9) Tryz.func54 rfl rfl rfl fun a hF=>?_
 refine wq ?_
 refine bx st hF 1 rfl rfl fun g3 w1 a st hF=>?_
 refine S.alloc st hF ah rfl rfl fun g4 w2 a st hF=>?_
 refine nq ?_
 refine oM hF 2 rfl rfl fun a hF=>?_
 refine oL hF st 2 1 be rfl rfl rfl rfl fun a hF=>?_
 refine S.ck st hF (rgc IR (aC (hF.at 1 rfl) (hF.at 0 rfl))) (aD (wn n xa xb xc xd _ (hT.below st.bel) (by first|assumption|exact⟨by omega,by omega,by omega,by omega,by omega,by omega,by omega,by omega⟩) (by omega) (by omega)) (qb (by first|assumption|exact⟨by omega,by omega,by omega,by omega,by omega,by omega,by omega,by omega⟩) (by omega) (by omega))) Rl.cl rfl fun vv4 w3 a st hF=>?_
 obtain⟨r6,rfl⟩:=Rq.fo (st.f 0 rfl).1
 refine S.ck st hF (rgc k55 (aI (hF.at 0 rfl))) (aD (kO _ _ 90 _ (st.f 0 rfl).1 (st.f 0 rfl).2 (by omega)) (iG (by first|assumption|exact⟨by omega,by omega,by omega,by omega,by omega,by omega,by omega,by omega⟩) (by omega) (by omega))) Rl.cl rfl fun vv8 w7 a st hF=>?_
 obtain⟨r10,rfl⟩:=Rq.fo (st.f 0 rfl).1
 refine so st hF 0 4 0 ah rfl rfl rfl rfl fun w11 a st hF=>?_
 refine nr ?_
 refine rs Tryz.results54 st hF 4 0 ah rfl rfl rfl ?_
 have bel:=st.bel
 exact⟨_,rfl,(st.f 0 rfl).1,bel⟩
end Go.Proofs.YtnljadejcfgmaaaGreatDoor
