import Derived.Test.YtdbiegfmgabicaaGreatDoorKA18
import Derived.Test.YtdbiegfmgabicaaGreatDoorKA19
import Derived.Test.YtdbiegfmgabicaaGreatDoorKA28
import Derived.Test.YtdbiegfmgabicaaGreatDoorKA33
namespace Go.Proofs.YtdbiegfmgabicaaGreatDoor
open Go.RowKit
set_option maxRecDepth 100000
set_option linter.unusedVariables false
set_option maxHeartbeats 8000000
theorem Ek {w:World} {v1 v2 v3 v4 v5:Value} {q1 q2 q3 q4 q5:Rat} (h1:Rq w v1 q1) (h2:Rq w v2 q2) (h3:Rq w v3 q3) (h4:Rq w v4 q4) (h5:Rq w v5 q5):
 ∃v w',(Instr.buildSlice 179 5 #[(0,v1),(1,v2),(2,v3),(3,v4),(4,v5)]).run Tryz.prog w= .ok v w'∧Below w.heap.size w w'∧kN w' v [q1,q2,q3,q4,q5]:=by
 obtain⟨b1,ad1,n1,c1,ae1,m1,d1,rfl, -, -⟩:=h1.shape
 obtain⟨b2,ad2,n2,c2,ae2,m2,d2,rfl, -, -⟩:=h2.shape
 obtain⟨b3,ad3,n3,c3,ae3,m3,d3,rfl, -, -⟩:=h3.shape
 obtain⟨b4,ad4,n4,c4,ae4,m4,d4,rfl, -, -⟩:=h4.shape
 obtain⟨b5,ad5,n5,c5,ae5,m5,d5,rfl, -, -⟩:=h5.shape
 have ho:=mD (w:=w) (cs:=[.bool b1,.slice ad1 n1 c1,.slice ae1 m1 d1,.bool b2,.slice ad2 n2 c2,.slice ae2 m2 d2,.bool b3,.slice ad3 n3 c3,.slice ae3 m3 d3,.bool b4,.slice ad4 n4 c4,.slice ae4 m4 d4,.bool b5,.slice ad5 n5 c5,.slice ae5 m5 d5]) 55 (niB (niS (niS (niB (niS (niS (niB (niS (niS (niB (niS (niS (niB (niS (niS ni0)))))))))))))))
 refine⟨.slice (some ⟨w.heap.size,0,none⟩) 5 5,w.alloc (.cells #[.bool b1,.slice ad1 n1 c1,.slice ae1 m1 d1,.bool b2,.slice ad2 n2 c2,.slice ae2 m2 d2,.bool b3,.slice ad3 n3 c3,.slice ae3 m3 d3,.bool b4,.slice ad4 n4 c4,.slice ae4 m4 d4,.bool b5,.slice ad5 n5 c5,.slice ae5 m5 d5] 55),?_,ho.2,_,_,rfl,ho.1,?_⟩
 ·have hs:=bn (P:=Tryz.prog) jh w
  have hu:=run_underlying (P:=Tryz.prog) Tryz.underlying179 w
  have hz:=cI (P:=Tryz.prog) kL w
  simp[Instr.buildSlice,go_sem,hs,hu,Instr.fill,Value.cells,newRow]
 ·intro i hi
  have hi':i<5:=hi
  match i,hi' with
  |0,_=>exact⟨b1,ad1,n1,c1,ae1,m1,d1,rfl,h1.below ho.2⟩
  |1,_=>exact⟨b2,ad2,n2,c2,ae2,m2,d2,rfl,h2.below ho.2⟩
  |2,_=>exact⟨b3,ad3,n3,c3,ae3,m3,d3,rfl,h3.below ho.2⟩
  |3,_=>exact⟨b4,ad4,n4,c4,ae4,m4,d4,rfl,h4.below ho.2⟩
  |4,_=>exact⟨b5,ad5,n5,c5,ae5,m5,d5,rfl,h5.below ho.2⟩
theorem qs5 (q1 q2 q3 q4 q5:Rat):qw [q1,q2,q3,q4,q5] 5=0+q1+q2+q3+q4+q5:=rfl
theorem Mx (v:Value) (q1 q2 q3 q4 q5:Rat) (k:Nat) (w:World) (h:kN w v [q1,q2,q3,q4,q5]) (l1:ah q1 k) (l2:ah q2 k) (l3:ah q3 k) (l4:ah q4 k) (l5:ah q5 k) (hk:k≤10000):Calls Tryz.prog 146 #[v] w (bl w (q1+q2+q3+q4+q5)):=by
 have e0:q1+q2+q3+q4+q5=qw [q1,q2,q3,q4,q5] 5:=by rw[qs5,Rat.zero_add]
 rw[e0]
 have hp:=l1.pos
 refine DZ v [q1,q2,q3,q4,q5] (5*k+4) w h ?_ ?_ (by omega) (by simp)
 ·intro i hi
  have hi':i<6:=Nat.lt_succ_of_le hi
  match i,hi' with
  |0,_=>exact iR (by omega)
  |1,_=>show ah (0+q1) _;rw[Rat.zero_add];exact l1.up _ (by omega)
  |2,_=>show ah (0+q1+q2) _;rw[Rat.zero_add];exact(bL l1 l2).up _ (by omega)
  |3,_=>show ah (0+q1+q2+q3) _;rw[Rat.zero_add];exact(bL (bL l1 l2) l3).up _ (by omega)
  |4,_=>show ah (0+q1+q2+q3+q4) _;rw[Rat.zero_add];exact(bL (bL (bL l1 l2) l3) l4).up _ (by omega)
  |5,_=>show ah (0+q1+q2+q3+q4+q5) _;rw[Rat.zero_add];exact(bL (bL (bL (bL l1 l2) l3) l4) l5).up _ (by omega)
 ·intro i hi
  have hi':i<5:=hi
  match i,hi' with
  |0,_=>exact l1.up _ (by omega)
  |1,_=>exact l2.up _ (by omega)
  |2,_=>exact l3.up _ (by omega)
  |3,_=>exact l4.up _ (by omega)
  |4,_=>exact l5.up _ (by omega)
theorem lU (v1:Value) (qt:Rat) (k:Nat) (w:World) (h1:Rq w v1 qt) (hl:ah qt k) (hk:k≤2000):
 Calls Tryz.prog 42 #[v1] w (bl w (bX qt)):=by
 have st:=St.start w
 refine go1 (nt:=10) Tryz.func42 rfl rfl rfl fun a hF=>?_
 refine wq ?_
 obtain⟨r2,rfl⟩:=Rq.fo h1
 refine bx st hF 0 rfl rfl fun g1 w1 a st hF=>?_
 refine S.alloc st hF aa rfl rfl fun g2 w3 a st hF=>?_
 refine ns ?_
 refine E.rg 7 aF hF [3,4,5,6,7,8,9] [_,_,_,_,_,_,_] (by decide+kernel) rfl rfl rfl ⟨rb st aa 1 1 rfl,ck st k30 rfl fun _ s=>aB (a7 (1048576) _ (by decide) (by decide)) (aW (ao (by decide) (by decide)) (by omega)),ck st k82 rfl fun _ s _ x4=>de ⟨(h1.below s.bel),hl⟩ x4,ck st k81 rfl fun _ s _ x5=>d7 (i7 _ ((qt)*(((1048576:Int):Rat))) (k+2) _ x5.1 x5.2 (by omega)) (fW x5.2),ck st k80 rfl fun _ s _ x6=>aB (te _ (Rat.floor ((qt)*(((1048576:Int):Rat)))) _ (Wc.wz x6.1)) (aW (Lim.up x6.2 (((k+2)+1)+1) (by omega)) (by omega)),ck st k48 rfl fun _ s=>aB (bz (1) (1048576) _ (by decide) (by decide) (by decide) (by decide)) (ah.up (aK (ao (by decide) (by decide)) (ao (by decide) (by decide))) 2 (by decide)),ck st k82 rfl fun _ s _ x7 _ x8=>de x7 x8,trivial⟩ ?_
 intro a w4 hF bb hall
 replace st:=st.to bb
 obtain⟨vv5,hF,st⟩:=rS hall hF st 6 rfl rfl Rl.cl
 obtain⟨r7,rfl⟩:=Rq.fo (st.f 0 rfl).1
 clear hall bb
 refine so st hF 0 1 0 aa rfl rfl rfl rfl fun w8 a st hF=>?_
 refine nr ?_
 refine rs Tryz.results42 st hF 1 0 aa rfl rfl rfl ?_
 have bel:=st.bel
 exact⟨_,rfl,(st.f 0 rfl).1,bel⟩
theorem qN (v1:Value) (qt:Rat) (k:Nat) (w:World) (h1:Rq w v1 qt) (hl:ah qt k) (hk:k≤20):
 Calls Tryz.prog 193 #[v1] w (bl w (fP qt)):=by
 have st:=St.start w
 refine go1 (nt:=22) Tryz.func193 rfl rfl rfl fun a hF=>?_
 refine wq ?_
 obtain⟨r2,rfl⟩:=Rq.fo h1
 refine bx st hF 0 rfl rfl fun g1 w1 a st hF=>?_
 refine S.alloc st hF aa rfl rfl fun g2 w3 a st hF=>?_
 refine ns ?_
 refine E.rga 6 aF hF [5,6,7,8,9,3] [_,_,_,_,_,kn w3 [.bool false,.slice none 0 0,.slice none 0 0]] [5] ⟨fun _ _ ⟨g,e,_,o⟩=>⟨g,e,o.lt⟩,trivial⟩ (by decide+kernel) rfl rfl rfl ⟨rb st aa 1 1 rfl,ck st k30 rfl fun _ s=>aB (a7 ((-1132959)) _ (by decide) (by decide)) (aW (ao (by decide) (by decide)) (by omega)),ck st k27 rfl fun _ s _ x6=>eQ ⟨(h1.below s.bel),hl⟩ x6,ck st k48 rfl fun _ s=>aB (bz (600) (1577917828) _ (by decide) (by decide) (by decide) (by decide)) (ah.up (aK (ao (by decide) (by decide)) (ao (by decide) (by decide))) 2 (by decide)),ck st k82 rfl fun _ s _ x7 _ x8=>de x7 x8,ra aa rfl rfl,trivial⟩ ?_
 intro a w4 hF bb hall hne
 have s0:=st
 replace st:=st.to bb
 obtain⟨vv5,hF,st⟩:=rS hall hF st 4 rfl rfl Rl.cl
 obtain⟨r7,rfl⟩:=Rq.fo (st.f 0 rfl).1
 obtain⟨_,e3,g3,rfl,ge3,o3⟩:=sS hall 5 3 rfl rfl
 replace st:=st.push o3.blk (Nat.le_trans s0.bel.size ge3) (s0.ne ge3)
 clear o3
 replace hF:=hF.add e3
 clear hall bb hne s0
 refine so st hF 0 0 1 aa rfl rfl rfl rfl fun w8 a st hF=>?_
 refine ns ?_
 refine E.rga 7 aF hF [10,11,12,13,14,15,4] [_,_,_,_,_,_,kn w8 [.bool false,.slice none 0 0,.slice none 0 0]] [6] ⟨fun _ _ ⟨g,e,_,o⟩=>⟨g,e,o.lt⟩,trivial⟩ (by decide+kernel) rfl rfl rfl ⟨rb st aa 0 0 rfl,ck st k48 rfl fun _ s=>aB (bz (1) (4) _ (by decide) (by decide) (by decide) (by decide)) (ah.up (aK (ao (by decide) (by decide)) (ao (by decide) (by decide))) 2 (by decide)),ck st k27 rfl fun _ s _ x11=>eQ (s.f 0 rfl) x11,ck st k48 rfl fun _ s=>aB (bz ((-1)) (2) _ (by decide) (by decide) (by decide) (by decide)) (ah.up (aK (ao (by decide) (by decide)) (ao (by decide) (by decide))) 2 (by decide)),ck st k48 rfl fun _ s=>aB (bz (1) (2) _ (by decide) (by decide) (by decide) (by decide)) (ah.up (aK (ao (by decide) (by decide)) (ao (by decide) (by decide))) 2 (by decide)),ck st N9 rfl fun _ s _ x12 _ x13 _ x14=>Nx x12 x13 x14,ra aa rfl rfl,trivial⟩ ?_
 intro a w9 hF bb hall hne
 have s0:=st
 replace st:=st.to bb
 obtain⟨vv10,hF,st⟩:=rS hall hF st 5 rfl rfl Rl.cl
 obtain⟨r12,rfl⟩:=Rq.fo (st.f 0 rfl).1
 obtain⟨_,e4,g4,rfl,ge4,o4⟩:=sS hall 6 4 rfl rfl
 replace st:=st.push o4.blk (Nat.le_trans s0.bel.size ge4) (s0.ne ge4)
 clear o4
 replace hF:=hF.add e4
 clear hall bb hne s0
 refine so st hF 0 0 1 aa rfl rfl rfl rfl fun w13 a st hF=>?_
 refine ns ?_
 refine E.rg 6 aF hF [16,17,18,19,20,21] [_,_,_,_,_,_] (by decide+kernel) rfl rfl rfl ⟨ck st k30 rfl fun _ s=>aB (a7 (27) _ (by decide) (by decide)) (aW (ao (by decide) (by decide)) (by omega)),rb st aa 0 0 rfl,ck st Fv rfl fun _ s=>E5 (s.f 0 rfl),ck st k30 rfl fun _ s=>aB (a7 (108) _ (by decide) (by decide)) (aW (ao (by decide) (by decide)) (by omega)),ck st k82 rfl fun _ s _ x18 _ x19=>de x18 x19,ck st k27 rfl fun _ s _ x16 _ x20=>eQ x16 x20,trivial⟩ ?_
 intro a w14 hF bb hall
 replace st:=st.to bb
 obtain⟨vv15,hF,st⟩:=rS hall hF st 5 rfl rfl Rl.cl
 obtain⟨r17,rfl⟩:=Rq.fo (st.f 0 rfl).1
 clear hall bb
 refine so st hF 2 5 0 aa rfl rfl rfl rfl fun w18 a st hF=>?_
 refine nr ?_
 refine rs Tryz.results193 st hF 5 2 aa rfl rfl rfl ?_
 have bel:=st.bel
 exact⟨_,rfl,Rq.castM (st.f 0 rfl).1 (by unfold fP;rw[Rat.mul_comm ((108:Int):Rat)];rfl),bel⟩
theorem s4 (v1:Value) (qt:Rat) (k:Nat) (w:World) (hT:bG w) (h1:Rq w v1 qt) (hl:ah qt k) (hk:k≤20):
 Calls Tryz.prog 141 #[v1] w (bl w (cg qt)):=by
 have st:=St.start w
 refine go1 (nt:=10) Tryz.func141 rfl rfl rfl fun a hF=>?_
 refine wq ?_
 obtain⟨r2,rfl⟩:=Rq.fo h1
 refine bx st hF 0 rfl rfl fun g1 w1 a st hF=>?_
 refine S.alloc st hF aa rfl rfl fun g2 w3 a st hF=>?_
 refine ns ?_
 refine E.rg 7 aF hF [3,4,5,6,7,8,9] [_,_,_,_,_,_,_] (by decide+kernel) rfl rfl rfl ⟨rb st aa 1 1 rfl,ck st Ar rfl fun _ s=>C8 (hT.below s.bel) ⟨(h1.below s.bel),hl⟩,rb st aa 1 1 rfl,ck st Oz rfl fun _ s=>aB (qN _ (qt) k _ (h1.below s.bel) hl (by omega)) (qT hl),ck st k27 rfl fun _ s _ x4 _ x6=>eQ x4 x6,ck st k30 rfl fun _ s=>aB (a7 (360) _ (by decide) (by decide)) (aW (ao (by decide) (by decide)) (by omega)),ck st zO rfl fun _ s _ x7 _ x8=>GB x7 x8,trivial⟩ ?_
 intro a w4 hF bb hall
 replace st:=st.to bb
 obtain⟨vv5,hF,st⟩:=rS hall hF st 6 rfl rfl Rl.cl
 obtain⟨r7,rfl⟩:=Rq.fo (st.f 0 rfl).1
 clear hall bb
 refine so st hF 0 1 0 aa rfl rfl rfl rfl fun w8 a st hF=>?_
 refine nr ?_
 refine rs Tryz.results141 st hF 1 0 aa rfl rfl rfl ?_
 have bel:=st.bel
 exact⟨_,rfl,(st.f 0 rfl).1,bel⟩
theorem uo (v1:Value) (qt:Rat) (k:Nat) (w:World) (h1:Rq w v1 qt) (hl:ah qt k) (hk:k≤20):
 Calls Tryz.prog 140 #[v1] w (bl w (mof qt pay)):=by
 have st:=St.start w
 refine go1 (nt:=6) Tryz.func140 rfl rfl rfl fun a hF=>?_
 refine wq ?_
 obtain⟨r2,rfl⟩:=Rq.fo h1
 refine bx st hF 0 rfl rfl fun g1 w1 a st hF=>?_
 refine S.alloc st hF aa rfl rfl fun g2 w3 a st hF=>?_
 refine ns ?_
 refine E.rg 3 aF hF [3,4,5] [_,_,_] (by decide+kernel) rfl rfl rfl ⟨rb st aa 1 1 rfl,ck st Ky rfl fun _ s=>mE,ck st D5 rfl fun _ s _ x4=>zW ⟨(h1.below s.bel),hl⟩ x4,trivial⟩ ?_
 intro a w4 hF bb hall
 replace st:=st.to bb
 obtain⟨vv5,hF,st⟩:=rS hall hF st 2 rfl rfl Rl.cl
 obtain⟨r7,rfl⟩:=Rq.fo (st.f 0 rfl).1
 clear hall bb
 refine so st hF 0 1 0 aa rfl rfl rfl rfl fun w8 a st hF=>?_
 refine nr ?_
 refine rs Tryz.results140 st hF 1 0 aa rfl rfl rfl ?_
 have bel:=st.bel
 exact⟨_,rfl,(st.f 0 rfl).1,bel⟩
theorem mJ (v1:Value) (qt:Rat) (k:Nat) (w:World) (h1:Rq w v1 qt) (hl:ah qt k) (hk:k≤1000):
 Calls Tryz.prog 195 #[v1] w (bl w (AL qt)):=by
 have st:=St.start w
 refine go1 (nt:=9) Tryz.func195 rfl rfl rfl fun a hF=>?_
 refine wq ?_
 obtain⟨r2,rfl⟩:=Rq.fo h1
 refine bx st hF 0 rfl rfl fun g1 w1 a st hF=>?_
 refine S.alloc st hF aa rfl rfl fun g2 w3 a st hF=>?_
 refine ns ?_
 refine E.rg 6 aF hF [3,4,5,6,7,8] [_,_,_,_,_,_] (by decide+kernel) rfl rfl rfl ⟨ck st k48 rfl fun _ s=>aB (bz (14) (360) _ (by decide) (by decide) (by decide) (by decide)) (ah.up (aK (ao (by decide) (by decide)) (ao (by decide) (by decide))) 2 (by decide)),rb st aa 1 1 rfl,ck st Fv rfl fun _ s=>E5 ⟨(h1.below s.bel),hl⟩,ck st k48 rfl fun _ s=>aB (bz (1) (1080) _ (by decide) (by decide) (by decide) (by decide)) (ah.up (aK (ao (by decide) (by decide)) (ao (by decide) (by decide))) 2 (by decide)),ck st k82 rfl fun _ s _ x5 _ x6=>de x5 x6,ck st k27 rfl fun _ s _ x3 _ x7=>eQ x3 x7,trivial⟩ ?_
 intro a w4 hF bb hall
 replace st:=st.to bb
 obtain⟨vv5,hF,st⟩:=rS hall hF st 5 rfl rfl Rl.cl
 obtain⟨r7,rfl⟩:=Rq.fo (st.f 0 rfl).1
 clear hall bb
 refine so st hF 0 1 0 aa rfl rfl rfl rfl fun w8 a st hF=>?_
 refine nr ?_
 refine rs Tryz.results195 st hF 1 0 aa rfl rfl rfl ?_
 have bel:=st.bel
 exact⟨_,rfl,(st.f 0 rfl).1,bel⟩
theorem oQ (v1:Value) (qt:Rat) (k:Nat) (w:World) (hT:bG w) (h1:Rq w v1 qt) (hl:ah qt k) (hk:k≤300):
 Calls Tryz.prog 143 #[v1] w (bl w (s5 qt)):=by
 have hpk:=jG qt
 have hsa:=ic (pk qt)
 have st:=St.start w
 refine go1 (nt:=18) Tryz.func143 rfl rfl rfl fun a hF=>?_
 refine wq ?_
 obtain⟨r2,rfl⟩:=Rq.fo h1
 refine bx st hF 0 rfl rfl fun g1 w1 a st hF=>?_
 refine S.alloc st hF aa rfl rfl fun g2 w3 a st hF=>?_
 refine ns ?_
 refine E.rga 8 aF hF [4,5,6,7,8,9,10,3] [_,_,_,_,_,_,_,kn w3 [.bool false,.slice none 0 0,.slice none 0 0]] [7] ⟨fun _ _ ⟨g,e,_,o⟩=>⟨g,e,o.lt⟩,trivial⟩ (by decide+kernel) rfl rfl rfl ⟨rb st aa 1 1 rfl,ck st NR rfl fun _ s=>a9 (FW _ (qt) k _ (hT.below s.bel) (h1.below s.bel) hl (by omega)),ck st k48 rfl fun _ s=>aB (bz (spk (pk (qt)+1)-spk (pk (qt))) (225) _ (eF (pk (qt))).1 (eF (pk (qt))).2 (by decide) (by decide)) (ah.up (aK (ao (eF (pk (qt))).1 (eF (pk (qt))).2) (ao (by decide) (by decide))) 2 (by decide)),rb st aa 1 1 rfl,ck st sW rfl fun _ s=>qOf (hT.below s.bel) ⟨(h1.below s.bel),hl⟩,ck st Ml rfl fun _ s _ x8=>aB (mJ _ (sof (qt)) (k+12) _ x8.1 x8.2 (by omega)) (nc x8.2),ck st k82 rfl fun _ s _ x6 _ x9=>de x6 x9,ra aa rfl rfl,trivial⟩ ?_
 intro a w4 hF bb hall hne
 have s0:=st
 replace st:=st.to bb
 obtain⟨vv5,hF,st⟩:=rS hall hF st 6 rfl rfl Rl.cl
 obtain⟨r7,rfl⟩:=Rq.fo (st.f 0 rfl).1
 obtain⟨_,e3,g3,rfl,ge3,o3⟩:=sS hall 7 3 rfl rfl
 replace st:=st.push o3.blk (Nat.le_trans s0.bel.size ge3) (s0.ne ge3)
 clear o3
 replace hF:=hF.add e3
 clear hall bb hne s0
 refine so st hF 0 0 1 aa rfl rfl rfl rfl fun w8 a st hF=>?_
 refine ns ?_
 refine E.rg 7 aF hF [11,12,13,14,15,16,17] [_,_,_,_,_,_,_] (by decide+kernel) rfl rfl rfl ⟨ck st k30 rfl fun _ s=>aB (a7 (360) _ (by decide) (by decide)) (aW (ao (by decide) (by decide)) (by omega)),ck st wK rfl fun _ s=>mh,ck st nl rfl fun _ s _ x11 _ x12=>nm x11 x12,ck st k30 rfl fun _ s=>aB (a7 (1) _ (by decide) (by decide)) (aW (ao (by decide) (by decide)) (by omega)),rb st aa 0 0 rfl,ck st k27 rfl fun _ s _ x14=>eQ x14 (s.f 0 rfl),ck st k82 rfl fun _ s _ x13 _ x16=>de x13 x16,trivial⟩ ?_
 intro a w9 hF bb hall
 replace st:=st.to bb
 obtain⟨vv10,hF,st⟩:=rS hall hF st 6 rfl rfl Rl.cl
 obtain⟨r12,rfl⟩:=Rq.fo (st.f 0 rfl).1
 clear hall bb
 refine so st hF 1 3 0 aa rfl rfl rfl rfl fun w13 a st hF=>?_
 refine nr ?_
 refine rs Tryz.results143 st hF 3 1 aa rfl rfl rfl ?_
 have bel:=st.bel
 exact⟨_,rfl,(st.f 0 rfl).1,bel⟩
theorem sO (v1:Value) (qt:Rat) (k:Nat) (w:World) (hT:bG w) (h1:Rq w v1 qt) (hl:ah qt k) (hk:k≤300):
 Calls Tryz.prog 147 #[v1] w (bl w (vZ qt)):=by
 have st:=St.start w
 refine go1 (nt:=23) Tryz.func147 rfl rfl rfl fun a hF=>?_
 refine wq ?_
 obtain⟨r2,rfl⟩:=Rq.fo h1
 refine bx st hF 0 rfl rfl fun g1 w1 a st hF=>?_
 refine S.alloc st hF aa rfl rfl fun g2 w3 a st hF=>?_
 refine nq ?_
 refine oL hF st 1 1 aa rfl rfl rfl rfl fun a hF=>?_
 refine S.ck st hF (rgc sW (aD hF.o)) (qOf (hT.below st.bel) ⟨(h1.below st.bel),hl⟩) Rl.cl rfl fun vv5 w4 a st hF=>?_
 obtain⟨r7,rfl⟩:=Rq.fo (st.f 0 rfl).1
 refine S.new st hF 0 rfl aa rfl rfl rfl rfl rfl fun g3 w8 a st hF=>?_
 refine ns ?_
 refine E.rga 7 aF hF [7,8,9,10,11,12,4] [_,_,_,_,_,_,kn w8 [.bool false,.slice none 0 0,.slice none 0 0]] [6] ⟨fun _ _ ⟨g,e,_,o⟩=>⟨g,e,o.lt⟩,trivial⟩ (by decide+kernel) rfl rfl rfl ⟨rb st aa 0 0 rfl,ck st k48 rfl fun _ s=>aB (bz (573) (10) _ (by decide) (by decide) (by decide) (by decide)) (ah.up (aK (ao (by decide) (by decide)) (ao (by decide) (by decide))) 2 (by decide)),ck st k82 rfl fun _ s _ x8=>de (s.f 0 rfl) x8,rb st aa 0 0 rfl,ck st Ml rfl fun _ s=>aB (mJ _ (sof (qt)) (k+12) _ (s.f 0 rfl).1 (s.f 0 rfl).2 (by omega)) (nc (s.f 0 rfl).2),ck st k82 rfl fun _ s _ x9 _ x11=>de x9 x11,ra aa rfl rfl,trivial⟩ ?_
 intro a w9 hF bb hall hne
 have s0:=st
 replace st:=st.to bb
 obtain⟨vv10,hF,st⟩:=rS hall hF st 5 rfl rfl Rl.cl
 obtain⟨r12,rfl⟩:=Rq.fo (st.f 0 rfl).1
 obtain⟨_,e4,g4,rfl,ge4,o4⟩:=sS hall 6 4 rfl rfl
 replace st:=st.push o4.blk (Nat.le_trans s0.bel.size ge4) (s0.ne ge4)
 clear o4
 replace hF:=hF.add e4
 clear hall bb hne s0
 refine so st hF 0 0 1 aa rfl rfl rfl rfl fun w13 a st hF=>?_
 refine ns ?_
 refine E.rg 10 aF hF [13,14,15,16,17,18,19,20,21,22] [_,_,_,_,_,_,_,_,_,_] (by decide+kernel) rfl rfl rfl ⟨rb st aa 6 3 rfl,ck st Kf rfl fun _ s=>aB (oQ _ (qt) k _ (hT.below s.bel) (h1.below s.bel) hl (by omega)) (nH hl),ck st k48 rfl fun _ s=>aB (bz (1) (360) _ (by decide) (by decide) (by decide) (by decide)) (ah.up (aK (ao (by decide) (by decide)) (ao (by decide) (by decide))) 2 (by decide)),ck st k82 rfl fun _ s _ x14 _ x15=>de x14 x15,rb st aa 0 0 rfl,ck st k48 rfl fun _ s=>aB (bz (1) (360) _ (by decide) (by decide) (by decide) (by decide)) (ah.up (aK (ao (by decide) (by decide)) (ao (by decide) (by decide))) 2 (by decide)),ck st k82 rfl fun _ s _ x18=>de (s.f 0 rfl) x18,ck st k82 rfl fun _ s _ x16 _ x19=>de x16 x19,ck st wK rfl fun _ s=>mh,ck st k82 rfl fun _ s _ x20 _ x21=>de x20 x21,trivial⟩ ?_
 intro a w14 hF bb hall
 replace st:=st.to bb
 obtain⟨vv15,hF,st⟩:=rS hall hF st 9 rfl rfl Rl.cl
 obtain⟨r17,rfl⟩:=Rq.fo (st.f 0 rfl).1
 clear hall bb
 refine so st hF 2 6 0 aa rfl rfl rfl rfl fun w18 a st hF=>?_
 refine nr ?_
 refine rs Tryz.results147 st hF 6 2 aa rfl rfl rfl ?_
 have bel:=st.bel
 exact⟨_,rfl,(st.f 0 rfl).1,bel⟩
theorem Au (v1:Value) (qt:Rat) (k:Nat) (w:World) (h1:Rq w v1 (qt*(((1:Int):Rat)/((30:Int):Rat)))) (hl:ah (qt*(((1:Int):Rat)/((30:Int):Rat))) k) (hk:k≤10000) (h0:0≤qt) (h3:qt<((360:Int):Rat)):Calls Tryz.prog 86 #[v1] w (aG w (.tuple #[.int .i64 (prt qt 12),.bool true])):=by
 have h:=iT v1 _ k w h1 hl hk
 rwa[(Ln h0 h3).1,(Ln h0 h3).2] at h
theorem uQ (v1:Value) (qt:Rat) (k:Nat) (w:World) (h1:Rq w v1 qt) (hl:ah qt k) (hk:k≤300) (h0:0≤qt) (h3:qt<((360:Int):Rat)):
 Calls Tryz.prog 144 #[v1] w (bl w (vv qt)):=by
 have hpt:=gW (x:=qt) (n:=12) (by omega) h0 h3
 have st:=St.start w
 refine go1 (nt:=19) Tryz.func144 rfl rfl rfl fun a hF=>?_
 refine wq ?_
 obtain⟨r2,rfl⟩:=Rq.fo h1
 refine bx st hF 0 rfl rfl fun g1 w1 a st hF=>?_
 refine S.alloc st hF aa rfl rfl fun g2 w3 a st hF=>?_
 refine nq ?_
 refine oV hF (bh (Nh ar ar ar ar ar ar) (vN _ _ _ _ _ _ _)) rfl fun a hF=>?_
 refine S.new st hF 0 rfl M3 rfl rfl rfl rfl rfl fun g3 w4 a st hF=>?_
 refine ns ?_
 refine E.rg 9 aF hF [8,9,10,11,7,12,13,4,5] [_,_,_,_,.ex (.tuple #[.int .i64 (prt qt 12),.bool true]),.ex (.int .i64 (prt qt 12)),.ex (.bool true),.ex (.int .i64 (prt qt 12)),.ex (.bool true)] (by decide+kernel) rfl rfl rfl ⟨rb st aa 3 2 rfl,ck st k48 rfl fun _ s=>aB (bz (1) (30) _ (by decide) (by decide) (by decide) (by decide)) (ah.up (aK (ao (by decide) (by decide)) (ao (by decide) (by decide))) 2 (by decide)),ck st k82 rfl fun _ s _ x9=>de ⟨(h1.below s.bel),hl⟩ x9,ck st k86 rfl fun _ s _ x10=>a9 (Au _ qt (k+2) _ x10.1 x10.2 (by omega) h0 h3),(by intro a' w' hF' hb hd;have e11:=tE hd 0 rfl;exact dv0 (aN e11) rfl rfl rfl),(by intro a' w' hF' hb hd;have e7:=tE hd 0 rfl;exact dv0 (aR (v:= .int .i64 (prt qt 12)) e7 rfl) rfl rfl rfl),(by intro a' w' hF' hb hd;have e7:=tE hd 0 rfl;exact dv0 (aR (v:= .bool true) e7 rfl) rfl rfl rfl),(by intro a' w' hF' hb hd;have e12:=tE hd 0 rfl;exact dv0 (a8 e12) rfl rfl rfl),(by intro a' w' hF' hb hd;have e13:=tE hd 0 rfl;exact dv0 (a8 e13) rfl rfl rfl),trivial⟩ ?_
 intro a w5 hF bb hall
 replace st:=st.to bb
 replace hF:=rE hall hF 7 rfl rfl
 clear hall bb
 refine nq ?_
 refine oM hF 0 rfl rfl fun a hF=>oV hF (aq hF.o ar ab (kD (a:=prt qt 12) (b:=6) (by omega) (by omega))) rfl fun a hF=>oV hF (eI (hF.at 3 rfl) hF.o (M5 (by omega) (by omega))) rfl fun a hF=>oV hF (au hF.o (bQ (v:= .int .i64 (gN (prt qt 12))) (st.bk 0 rfl) Ij)) rfl fun a hF=>?_
 refine S.ck st hF (rgc k48 (aI hF.o ar)) (aB (bz (gN (prt qt 12)) (1800) _ (by have:=pF (prt qt 12);omega) (by have:=pF (prt qt 12);omega) (by decide) (by decide)) (ah.up (aK (ao (by have:=pF (prt qt 12);omega) (by have:=pF (prt qt 12);omega)) (ao (by decide) (by decide))) 2 (by decide))) Rl.cl rfl fun vv7 w6 a st hF=>?_
 obtain⟨r9,rfl⟩:=Rq.fo (st.f 0 rfl).1
 refine so st hF 1 8 0 aa rfl rfl rfl rfl fun w10 a st hF=>?_
 refine nr ?_
 refine rs Tryz.results144 st hF 8 1 aa rfl rfl rfl ?_
 have bel:=st.bel
 exact⟨_,rfl,(st.f 0 rfl).1,bel⟩
theorem qr (v1:Value) (qt:Rat) (xa xb xc xd:Int) (k:Nat) (w:World) (hT:bG w) (h1:Rq w v1 qt) (hl:ah qt k) (hk:k≤300) (hxa0: -9223372036854775808≤xa) (hxa1:xa≤9223372036854775807) (hxb0: -9223372036854775808≤xb) (hxb1:xb≤9223372036854775807):
 Calls Tryz.prog 145 #[v1,.agg #[.int .i64 xa,.int .i64 xb,.int .i64 xc,.int .i64 xd]] w (bl w (nf qt (((xa:Int):Rat)/((xb:Int):Rat)))):=by
 have st:=St.start w
 refine go2 (nt:=28) Tryz.func145 rfl rfl rfl fun a hF=>?_
 refine wq ?_
 obtain⟨r2,rfl⟩:=Rq.fo h1
 refine bx st hF 0 rfl rfl fun g2 w1 a st hF=>?_
 refine bx st hF 2 rfl rfl fun g3 w3 a st hF=>?_
 refine S.alloc st hF aa rfl rfl fun g4 w4 a st hF=>?_
 refine nq ?_
 refine oL hF st 2 2 aa rfl rfl rfl rfl fun a hF=>?_
 refine S.ck st hF (rgc sW (aD hF.o)) (qOf (hT.below st.bel) ⟨(h1.below st.bel),hl⟩) Rl.cl rfl fun vv6 w5 a st hF=>?_
 obtain⟨r8,rfl⟩:=Rq.fo (st.f 0 rfl).1
 refine S.ck st hF (rgc k48 (aI ar ar)) (aB (bz (1397) (3438) _ (by decide) (by decide) (by decide) (by decide)) (ah.up (aK (ao (by decide) (by decide)) (ao (by decide) (by decide))) 2 (by decide))) Rl.cl rfl fun vv10 w9 a st hF=>?_
 obtain⟨r12,rfl⟩:=Rq.fo (st.f 0 rfl).1
 refine S.ck st hF (rgc k82 (aI hF.p hF.o)) (de (st.f 1 rfl) (st.f 0 rfl)) Rl.cl rfl fun vv14 w13 a st hF=>?_
 obtain⟨r16,rfl⟩:=Rq.fo (st.f 0 rfl).1
 refine S.new st hF 0 rfl aa rfl rfl rfl rfl rfl fun g5 w17 a st hF=>?_
 refine nq ?_
 refine oL hF st 6 2 aZ rfl rfl rfl rfl fun a hF=>?_
 refine S.ck st hF (rgc Oe (aD hF.o)) (aB (ur xa xb xc xd _ hxa0 hxa1 hxb0 hxb1) (gz (n:=xa) (d:=xb) hxa0 hxa1 hxb0 hxb1)) Rl.cl rfl fun vv19 w18 a st hF=>?_
 obtain⟨r21,rfl⟩:=Rq.fo (st.f 0 rfl).1
 refine S.new st hF 0 rfl aa rfl rfl rfl rfl rfl fun g6 w22 a st hF=>?_
 refine ns ?_
 refine E.rga 8 aF hF [14,15,16,17,18,19,20,7] [_,_,_,_,_,_,_,kn w22 [.bool false,.slice none 0 0,.slice none 0 0]] [7] ⟨fun _ _ ⟨g,e,_,o⟩=>⟨g,e,o.lt⟩,trivial⟩ (by decide+kernel) rfl rfl rfl ⟨rb st aa 3 1 rfl,rb st aa 0 0 rfl,ck st sW rfl fun _ s=>qOf (hT.below s.bel) (s.f 0 rfl),ck st k82 rfl fun _ s _ x16=>de (s.f 1 rfl) x16,rb st aa 0 0 rfl,ck st Lq rfl fun _ s=>xX (hT.below s.bel) (s.f 0 rfl),ck st nl rfl fun _ s _ x17 _ x19=>nm x17 x19,ra aa rfl rfl,trivial⟩ ?_
 intro a w23 hF bb hall hne
 have s0:=st
 replace st:=st.to bb
 obtain⟨vv24,hF,st⟩:=rS hall hF st 6 rfl rfl Rl.cl
 obtain⟨r26,rfl⟩:=Rq.fo (st.f 0 rfl).1
 obtain⟨_,e7,g7,rfl,ge7,o7⟩:=sS hall 7 7 rfl rfl
 replace st:=st.push o7.blk (Nat.le_trans s0.bel.size ge7) (s0.ne ge7)
 clear o7
 replace hF:=hF.add e7
 clear hall bb hne s0
 refine so st hF 0 0 1 aa rfl rfl rfl rfl fun w27 a st hF=>?_
 refine ns ?_
 refine E.rg 7 aF hF [21,22,23,24,25,26,27] [_,_,_,_,_,_,_] (by decide+kernel) rfl rfl rfl ⟨rb st aa 0 0 rfl,ck st k51 rfl fun _ s=>Fo (s.f 0 rfl),rb st aa 5 2 rfl,ck st Ae rfl fun _ s=>Ea (hT.below s.bel) (s.f 2 rfl),ck st Lq rfl fun _ s _ x24=>xX (hT.below s.bel) x24,ck st nl rfl fun _ s _ x22 _ x25=>nm x22 x25,ck st Ae rfl fun _ s _ x26=>Ea (hT.below s.bel) x26,trivial⟩ ?_
 intro a w28 hF bb hall
 replace st:=st.to bb
 obtain⟨vv29,hF,st⟩:=rS hall hF st 6 rfl rfl Rl.cl
 obtain⟨r31,rfl⟩:=Rq.fo (st.f 0 rfl).1
 clear hall bb
 refine so st hF 3 11 0 aa rfl rfl rfl rfl fun w32 a st hF=>?_
 refine nr ?_
 refine rs Tryz.results145 st hF 11 3 aa rfl rfl rfl ?_
 have bel:=st.bel
 exact⟨_,rfl,Rq.castM (st.f 0 rfl).1 (Es _ _),bel⟩
theorem wg (v1:Value) (n xa xb xc xd qd sg:Int) (w:World) (hT:bG w) (h1:Rq w v1 (((qd:Int):Rat)/((4:Int):Rat))) (hp:cf xa xb xc xd) (hn0: -4000000≤n) (hn1:n≤4000000) (hq0:1≤qd) (hq1:qd≤3) (hs0: -1≤sg) (hs1:sg≤1):
 Calls Tryz.prog 83 #[.int .i64 n,.agg #[.int .i64 xa,.int .i64 xb,.int .i64 xc,.int .i64 xd],v1,.int .i64 sg] w (bl w (co ((n:Int):Rat) (((xa:Int):Rat)/((xb:Int):Rat)) (((xc:Int):Rat)/((xd:Int):Rat)) qd sg)):=by
 have st:=St.start w
 refine E.enter (nt:=56) (L:=[(0,.int .i64 n),(1,.agg #[.int .i64 xa,.int .i64 xb,.int .i64 xc,.int .i64 xd]),(2,v1),(3,.int .i64 sg)]) Tryz.func83 rfl rfl rfl (aP (i:=0) rfl (aP (i:=1) rfl (aP (i:=2) rfl (aP (i:=3) rfl dP)))) ?_
 intro a hF
 refine wq ?_
 refine bx st hF 1 rfl rfl fun g5 w1 a st hF=>?_
 obtain⟨r3,rfl⟩:=Rq.fo h1
 refine bx st hF 3 rfl rfl fun g6 w2 a st hF=>?_
 refine S.alloc st hF aa rfl rfl fun g8 w4 a st hF=>?_
 refine nq ?_
 refine oM hF 3 rfl rfl fun a hF=>?_
 refine S.ck st hF (rgc k30 (aD hF.o)) (aB (a7 (n) _ (by omega) (by omega)) (aW (ao (by omega) (by omega)) (by omega))) Rl.cl rfl fun vv6 w5 a st hF=>?_
 obtain⟨r8,rfl⟩:=Rq.fo (st.f 0 rfl).1
 refine S.new st hF 0 rfl aa rfl rfl rfl rfl rfl fun g9 w9 a st hF=>?_
 refine ns ?_
 refine E.rga 6 aF hF [17,18,19,20,10,11] [_,_,_,_,kn w9 [.bool false,.slice none 0 0,.slice none 0 0],kn w9 [.bool false,.slice none 0 0,.slice none 0 0]] [4,5] ⟨fun _ _ ⟨g,e,_,o⟩=>⟨g,e,o.lt⟩,⟨fun _ _ ⟨g,e,_,o⟩=>⟨g,e,o.lt⟩,trivial⟩⟩ (by decide+kernel) rfl rfl rfl ⟨rb st aa 0 0 rfl,ck st N0 rfl fun _ s=>aB (uo _ (((n:Int):Rat)) 2 _ (s.f 0 rfl).1 (s.f 0 rfl).2 (by omega)) (jw (s.f 0 rfl).2 jq),rb st aa 0 0 rfl,ck st OC rfl fun _ s=>aB (s4 _ (((n:Int):Rat)) 2 _ (hT.below s.bel) (s.f 0 rfl).1 (s.f 0 rfl).2 (by omega)) (mV (s.f 0 rfl).2),ra aa rfl rfl,ra aa rfl rfl,trivial⟩ ?_
 intro a w10 hF bb hall hne
 have s0:=st
 replace st:=st.to bb
 obtain⟨vv11,hF,st⟩:=rS hall hF st 1 rfl rfl Rl.cl
 obtain⟨r13,rfl⟩:=Rq.fo (st.f 0 rfl).1
 obtain⟨vv14,hF,st⟩:=rS hall hF st 3 rfl rfl Rl.cl
 obtain⟨r16,rfl⟩:=Rq.fo (st.f 0 rfl).1
 obtain⟨_,e10,g10,rfl,ge10,o10⟩:=sS hall 4 10 rfl rfl
 replace st:=st.push o10.blk (Nat.le_trans s0.bel.size ge10) (s0.ne ge10)
 clear o10
 replace hF:=hF.add e10
 obtain⟨_,e11,g11,rfl,ge11,o11⟩:=sS hall 5 11 rfl rfl
 replace st:=st.push o11.blk (Nat.le_trans s0.bel.size ge11) (mv (fun(e:g10=g11)=>hne 4 5 10 11 rfl rfl (by decide) rfl rfl (by rw[e10,e11,e])) (s0.ne ge11))
 clear o11
 replace hF:=hF.add e11
 clear hall bb hne s0
 refine so st hF 1 1 3 aa rfl rfl rfl rfl fun w17 a st hF=>?_
 refine so st hF 0 0 2 aa rfl rfl rfl rfl fun w18 a st hF=>?_
 refine ns ?_
 refine E.rga 8 aF hF [21,22,23,24,25,26,27,12] [_,_,_,_,_,_,_,kn w18 [.bool false,.slice none 0 0,.slice none 0 0]] [7] ⟨fun _ _ ⟨g,e,_,o⟩=>⟨g,e,o.lt⟩,trivial⟩ (by decide+kernel) rfl rfl rfl ⟨ck st OQ rfl fun _ s=>a9 (I8 _),ck st k26 rfl fun _ s=>aB (dQ 463 20 45461 600 _ (by decide) (by decide) (by decide) (by decide)) (gz (n:=45461) (d:=600) (by decide) (by decide) (by decide) (by decide)),rb st aZ 9 5 rfl,ck st k26 rfl fun _ s=>aB (dQ xa xb xc xd _ (by have:=hp.c0;have:=hp.c1;have:=hp.b1;have:=hp.d1;omega) (by have:=hp.c0;have:=hp.c1;have:=hp.b1;have:=hp.d1;omega) (by have:=hp.d0;have:=hp.d1;have:=hp.b1;have:=hp.d1;omega) (by have:=hp.d0;have:=hp.d1;have:=hp.b1;have:=hp.d1;omega)) (gz (n:=xc) (d:=xd) (by have:=hp.c0;have:=hp.c1;have:=hp.b1;have:=hp.d1;omega) (by have:=hp.c0;have:=hp.c1;have:=hp.b1;have:=hp.d1;omega) (by have:=hp.d0;have:=hp.d1;have:=hp.b1;have:=hp.d1;omega) (by have:=hp.d0;have:=hp.d1;have:=hp.b1;have:=hp.d1;omega)),ck st k27 rfl fun _ s _ x22 _ x24=>eQ x22 x24,ck st k48 rfl fun _ s=>aB (bz (1) (360) _ (by decide) (by decide) (by decide) (by decide)) (ah.up (aK (ao (by decide) (by decide)) (ao (by decide) (by decide))) 2 (by decide)),ck st k82 rfl fun _ s _ x25 _ x26=>de x25 x26,ra aa rfl rfl,trivial⟩ ?_
 intro a w19 hF bb hall hne
 have s0:=st
 replace st:=st.to bb
 obtain⟨vv20,hF,st⟩:=rS hall hF st 6 rfl rfl Rl.cl
 obtain⟨r22,rfl⟩:=Rq.fo (st.f 0 rfl).1
 obtain⟨_,e12,g12,rfl,ge12,o12⟩:=sS hall 7 12 rfl rfl
 replace st:=st.push o12.blk (Nat.le_trans s0.bel.size ge12) (s0.ne ge12)
 clear o12
 replace hF:=hF.add e12
 clear hall bb hne s0
 refine so st hF 0 0 1 aa rfl rfl rfl rfl fun w23 a st hF=>?_
 refine ns ?_
 refine E.rga 15 aF hF [28,29,30,31,32,33,34,35,36,37,38,39,40,41,13] [_,_,_,_,_,_,_,_,_,_,_,_,_,_,kn w23 [.bool false,.slice none 0 0,.slice none 0 0]] [14] ⟨fun _ _ ⟨g,e,_,o⟩=>⟨g,e,o.lt⟩,trivial⟩ (by decide+kernel) rfl rfl rfl ⟨rb st aa 10 5 rfl,rb st aa 3 2 rfl,ck st Kf rfl fun _ s=>aB (oQ _ (mof (((n:Int):Rat)) pay) 9 _ (hT.below s.bel) (s.f 2 rfl).1 (s.f 2 rfl).2 (by omega)) (nH (s.f 2 rfl).2),ck st k82 rfl fun _ s _ x30=>de ⟨(h1.below s.bel),(gz (n:=qd) (d:=4) (by omega) (by omega) (by decide) (by decide))⟩ x30,rb st aa 2 1 rfl,ck st OJ rfl fun _ s=>aB (uQ _ (cg (((n:Int):Rat))) 190 _ (s.f 1 rfl).1 (s.f 1 rfl).2 (by omega) (dE bC) (cZ bC)) (vI _),ck st k82 rfl fun _ s _ x31 _ x33=>de x31 x33,rb st aa 2 1 rfl,rb st aZ 11 6 rfl,ck st NJ rfl fun _ s=>aB (qr _ (cg (((n:Int):Rat))) xa xb xc xd 190 _ (hT.below s.bel) (s.f 1 rfl).1 (s.f 1 rfl).2 (by omega) (by have:=hp.a0;have:=hp.a1;have:=hp.b1;have:=hp.d1;omega) (by have:=hp.a0;have:=hp.a1;have:=hp.b1;have:=hp.d1;omega) (by have:=hp.b0;have:=hp.b1;have:=hp.b1;have:=hp.d1;omega) (by have:=hp.b0;have:=hp.b1;have:=hp.b1;have:=hp.d1;omega)) (tD (s.f 1 rfl).2 (gz (n:=xa) (d:=xb) (by have:=hp.a0;have:=hp.a1;have:=hp.b1;have:=hp.d1;omega) (by have:=hp.a0;have:=hp.a1;have:=hp.b1;have:=hp.d1;omega) (by have:=hp.b0;have:=hp.b1;have:=hp.b1;have:=hp.d1;omega) (by have:=hp.b0;have:=hp.b1;have:=hp.b1;have:=hp.d1;omega)) (by decide)),rm 15 rfl,ck st k30 rfl fun _ s=>aB (a7 (sg) _ (by omega) (by omega)) (aW (ao (by omega) (by omega)) (by omega)),ck st k82 rfl fun _ s _ x37 _ x39=>de x37 x39,ck st k50 rfl fun _ s _ x34 _ x40=>lT x34 x40,ra aa rfl rfl,trivial⟩ ?_
 intro a w24 hF bb hall hne
 have s0:=st
 replace st:=st.to bb
 obtain⟨vv25,hF,st⟩:=rS hall hF st 13 rfl rfl Rl.cl
 obtain⟨r27,rfl⟩:=Rq.fo (st.f 0 rfl).1
 obtain⟨_,e13,g13,rfl,ge13,o13⟩:=sS hall 14 13 rfl rfl
 replace st:=st.push o13.blk (Nat.le_trans s0.bel.size ge13) (s0.ne ge13)
 clear o13
 replace hF:=hF.add e13
 clear hall bb hne s0
 refine so st hF 0 0 1 aa rfl rfl rfl rfl fun w28 a st hF=>?_
 refine ns ?_
 refine E.rga 6 aF hF [42,43,44,45,46,14] [_,_,_,_,_,kn w28 [.bool false,.slice none 0 0,.slice none 0 0]] [5] ⟨fun _ _ ⟨g,e,_,o⟩=>⟨g,e,o.lt⟩,trivial⟩ (by decide+kernel) rfl rfl rfl ⟨ck st k48 rfl fun _ s=>aB (bz (1577917828) (1582237828) _ (by decide) (by decide) (by decide) (by decide)) (ah.up (aK (ao (by decide) (by decide)) (ao (by decide) (by decide))) 2 (by decide)),ck st k48 rfl fun _ s=>aB (bz (1) (360) _ (by decide) (by decide) (by decide) (by decide)) (ah.up (aK (ao (by decide) (by decide)) (ao (by decide) (by decide))) 2 (by decide)),ck st k82 rfl fun _ s _ x42 _ x43=>de x42 x43,rb st aa 0 0 rfl,ck st k82 rfl fun _ s _ x44=>de x44 (s.f 0 rfl),ra aa rfl rfl,trivial⟩ ?_
 intro a w29 hF bb hall hne
 have s0:=st
 replace st:=st.to bb
 obtain⟨vv30,hF,st⟩:=rS hall hF st 4 rfl rfl Rl.cl
 obtain⟨r32,rfl⟩:=Rq.fo (st.f 0 rfl).1
 obtain⟨_,e14,g14,rfl,ge14,o14⟩:=sS hall 5 14 rfl rfl
 replace st:=st.push o14.blk (Nat.le_trans s0.bel.size ge14) (s0.ne ge14)
 clear o14
 replace hF:=hF.add e14
 clear hall bb hne s0
 refine so st hF 0 0 1 aa rfl rfl rfl rfl fun w33 a st hF=>?_
 refine ns ?_
 refine E.rg 9 aF hF [47,48,49,50,51,52,53,54,55] [_,_,_,_,_,_,_,.of (fun w v=>kN w v [((n:Int):Rat),((qd:Int):Rat)/((4:Int):Rat),((((45461:Int):Rat)/((600:Int):Rat))-(((xc:Int):Rat)/((xd:Int):Rat)))*(((1:Int):Rat)/((360:Int):Rat)), -(vZ (mof (((n:Int):Rat)) pay)),((((1577917828:Int):Rat)/((1582237828:Int):Rat))*(((1:Int):Rat)/((360:Int):Rat)))*((((((qd:Int):Rat)/((4:Int):Rat))*(s5 (mof (((n:Int):Rat)) pay)))*(vv (cg (((n:Int):Rat)))))+((nf (cg (((n:Int):Rat))) (((xa:Int):Rat)/((xb:Int):Rat)))*(((sg:Int):Rat))))]∧ah (((n:Int):Rat)) (2)∧ah (((qd:Int):Rat)/((4:Int):Rat)) (2)∧ah (((((45461:Int):Rat)/((600:Int):Rat))-(((xc:Int):Rat)/((xd:Int):Rat)))*(((1:Int):Rat)/((360:Int):Rat))) (7)∧ah (-(vZ (mof (((n:Int):Rat)) pay))) (127)∧ah (((((1577917828:Int):Rat)/((1582237828:Int):Rat))*(((1:Int):Rat)/((360:Int):Rat)))*((((((qd:Int):Rat)/((4:Int):Rat))*(s5 (mof (((n:Int):Rat)) pay)))*(vv (cg (((n:Int):Rat)))))+((nf (cg (((n:Int):Rat))) (((xa:Int):Rat)/((xb:Int):Rat)))*(((sg:Int):Rat))))) (579)) (fun w w' v h hb=>⟨kN.mono _ w w' v h.1 hb,h.2⟩),_] (by decide+kernel) rfl rfl rfl ⟨rb st aa 10 5 rfl,rb st aa 14 7 rfl,rb st aa 4 2 rfl,rb st aa 7 4 rfl,ck st NO rfl fun _ s=>aB (sO _ (mof (((n:Int):Rat)) pay) 9 _ (hT.below s.bel) (s.f 4 rfl).1 (s.f 4 rfl).2 (by omega)) (vk (s.f 4 rfl).2),ck st k51 rfl fun _ s _ x51=>Fo x51,rb st aa 0 0 rfl,(by intro a' w' hF' hb hd;have e47:=tE hd 0 rfl;have e48:=tE hd 1 rfl;have e49:=tE hd 2 rfl;obtain⟨v52_0,e52,h52_1⟩:=tH hd 3 rfl;have e53:=tE hd 4 rfl;obtain⟨vq,w2,hr,bb,hq⟩:=Ek ((st.f 5 rfl).below hb).1 (h1.below (aC st.bel hb)) ((st.f 2 rfl).below hb).1 h52_1.1 ((st.f 0 rfl).below hb).1;exact cd (aM rfl) (bH.vals (cV (uu e47 e48 e49 e52 e53) hr) ⟨⟨hq,((st.f 5 rfl).below hb).2,(gz (n:=qd) (d:=4) (by omega) (by omega) (by decide) (by decide)),((st.f 2 rfl).below hb).2,h52_1.2,((st.f 0 rfl).below hb).2⟩,bb,(fun h=>absurd h (by decide))⟩)),ck st Oc rfl fun _ s _ x54=>aB (Mx _ (((n:Int):Rat)) (((qd:Int):Rat)/((4:Int):Rat)) (((((45461:Int):Rat)/((600:Int):Rat))-(((xc:Int):Rat)/((xd:Int):Rat)))*(((1:Int):Rat)/((360:Int):Rat))) (-(vZ (mof (((n:Int):Rat)) pay))) (((((1577917828:Int):Rat)/((1582237828:Int):Rat))*(((1:Int):Rat)/((360:Int):Rat)))*((((((qd:Int):Rat)/((4:Int):Rat))*(s5 (mof (((n:Int):Rat)) pay)))*(vv (cg (((n:Int):Rat)))))+((nf (cg (((n:Int):Rat))) (((xa:Int):Rat)/((xb:Int):Rat)))*(((sg:Int):Rat))))) (max (max (max 2 7) 127) 579) _ x54.1 (x54.2.1.up _ (by omega)) (x54.2.2.1.up _ (by omega)) (x54.2.2.2.1.up _ (by omega)) (x54.2.2.2.2.1.up _ (by omega)) (x54.2.2.2.2.2.up _ (by omega)) (by omega)) (bL (bL (bL (bL x54.2.1 x54.2.2.1) x54.2.2.2.1) x54.2.2.2.2.1) x54.2.2.2.2.2),trivial⟩ ?_
 intro a w34 hF bb hall
 replace st:=st.to bb
 obtain⟨vv35,hF,st⟩:=rS hall hF st 8 rfl rfl Rl.cl
 obtain⟨r37,rfl⟩:=Rq.fo (st.f 0 rfl).1
 clear hall bb
 refine so st hF 6 14 0 aa rfl rfl rfl rfl fun w38 a st hF=>?_
 refine nr ?_
 refine rs Tryz.results83 st hF 14 6 aa rfl rfl rfl ?_
 have bel:=st.bel
 exact⟨_,rfl,Rq.castM (st.f 0 rfl).1 (FC _ _ _ qd sg _ rfl),bel⟩
theorem xq (v1:Value) (n xa xb xc xd:Int) (w:World) (hT:bG w) (h1:Rq w v1 (((1:Int):Rat)/((4:Int):Rat))) (hp:cf xa xb xc xd) (hn0: -4000000≤n) (hn1:n≤4000000):
 Calls Tryz.prog 83 #[.int .i64 n,.agg #[.int .i64 xa,.int .i64 xb,.int .i64 xc,.int .i64 xd],v1,.int .i64 1] w (bl w (dN n xa xb xc xd)):=wg v1 n xa xb xc xd 1 1 w hT h1 hp hn0 hn1 (by decide) (by decide) (by decide) (by decide)
theorem xP (v1:Value) (n xa xb xc xd:Int) (w:World) (hT:bG w) (h1:Rq w v1 (((3:Int):Rat)/((4:Int):Rat))) (hp:cf xa xb xc xd) (hn0: -4000000≤n) (hn1:n≤4000000):
 Calls Tryz.prog 83 #[.int .i64 n,.agg #[.int .i64 xa,.int .i64 xb,.int .i64 xc,.int .i64 xd],v1,.int .i64 (-1)] w (bl w (jl n xa xb xc xd)):=wg v1 n xa xb xc xd 3 (-1) w hT h1 hp hn0 hn1 (by decide) (by decide) (by decide) (by decide)
theorem AH (n xa xb xc xd:Int) (w:World) (hT:bG w) (hp:cf xa xb xc xd) (hn0: -4000000≤n) (hn1:n≤4000000):
 Calls Tryz.prog 43 #[.int .i64 n,.agg #[.int .i64 xa,.int .i64 xb,.int .i64 xc,.int .i64 xd]] w (bl w (dN n xa xb xc xd)):=by
 have st:=St.start w
 refine go2 (nt:=9) Tryz.func43 rfl rfl rfl fun a hF=>?_
 refine wq ?_
 refine bx st hF 1 rfl rfl fun g3 w1 a st hF=>?_
 refine S.alloc st hF aa rfl rfl fun g4 w2 a st hF=>?_
 refine ns ?_
 refine E.rg 4 aF hF [5,6,7,8] [_,_,_,_] (by decide+kernel) rfl rfl rfl ⟨rm 2 rfl,rb st aZ 1 1 rfl,ck st k48 rfl fun _ s=>aB (bz (1) (4) _ (by decide) (by decide) (by decide) (by decide)) (ah.up (aK (ao (by decide) (by decide)) (ao (by decide) (by decide))) 2 (by decide)),ck st k83 rfl fun _ s _ x7=>aB (xq _ n xa xb xc xd _ (hT.below s.bel) x7.1 (by first|assumption|constructor<;>omega) (by omega) (by omega)) (tj (by first|assumption|constructor<;>omega) (by omega) (by omega)),trivial⟩ ?_
 intro a w3 hF bb hall
 replace st:=st.to bb
 obtain⟨vv4,hF,st⟩:=rS hall hF st 3 rfl rfl Rl.cl
 obtain⟨r6,rfl⟩:=Rq.fo (st.f 0 rfl).1
 clear hall bb
 refine so st hF 0 1 0 aa rfl rfl rfl rfl fun w7 a st hF=>?_
 refine nr ?_
 refine rs Tryz.results43 st hF 1 0 aa rfl rfl rfl ?_
 have bel:=st.bel
 exact⟨_,rfl,(st.f 0 rfl).1,bel⟩
theorem zC (n xa xb xc xd:Int) (w:World) (hT:bG w) (hp:cf xa xb xc xd) (hn0: -4000000≤n) (hn1:n≤4000000):
 Calls Tryz.prog 162 #[.int .i64 n,.agg #[.int .i64 xa,.int .i64 xb,.int .i64 xc,.int .i64 xd]] w (bl w (jl n xa xb xc xd)):=by
 have st:=St.start w
 refine go2 (nt:=9) Tryz.func162 rfl rfl rfl fun a hF=>?_
 refine wq ?_
 refine bx st hF 1 rfl rfl fun g3 w1 a st hF=>?_
 refine S.alloc st hF aa rfl rfl fun g4 w2 a st hF=>?_
 refine ns ?_
 refine E.rg 4 aF hF [5,6,7,8] [_,_,_,_] (by decide+kernel) rfl rfl rfl ⟨rm 2 rfl,rb st aZ 1 1 rfl,ck st k48 rfl fun _ s=>aB (bz (3) (4) _ (by decide) (by decide) (by decide) (by decide)) (ah.up (aK (ao (by decide) (by decide)) (ao (by decide) (by decide))) 2 (by decide)),ck st k83 rfl fun _ s _ x7=>aB (xP _ n xa xb xc xd _ (hT.below s.bel) x7.1 (by first|assumption|constructor<;>omega) (by omega) (by omega)) (y7 (by first|assumption|constructor<;>omega) (by omega) (by omega)),trivial⟩ ?_
 intro a w3 hF bb hall
 replace st:=st.to bb
 obtain⟨vv4,hF,st⟩:=rS hall hF st 3 rfl rfl Rl.cl
 obtain⟨r6,rfl⟩:=Rq.fo (st.f 0 rfl).1
 clear hall bb
 refine so st hF 0 1 0 aa rfl rfl rfl rfl fun w7 a st hF=>?_
 refine nr ?_
 refine rs Tryz.results162 st hF 1 0 aa rfl rfl rfl ?_
 have bel:=st.bel
 exact⟨_,rfl,(st.f 0 rfl).1,bel⟩
theorem gD (n xa xb xc xd:Int) (w:World) (hT:bG w) (hp:cf xa xb xc xd) (hn0: -4000000≤n) (hn1:n≤4000000):
 Calls Tryz.prog 19 #[.int .i64 n,.agg #[.int .i64 xa,.int .i64 xb,.int .i64 xc,.int .i64 xd]] w (bl w (bX (dN n xa xb xc xd))):=by
 have st:=St.start w
 refine go2 (nt:=9) Tryz.func19 rfl rfl rfl fun a hF=>?_
 refine wq ?_
 refine bx st hF 1 rfl rfl fun g3 w1 a st hF=>?_
 refine S.alloc st hF aa rfl rfl fun g4 w2 a st hF=>?_
 refine nq ?_
 refine oM hF 2 rfl rfl fun a hF=>oL hF st 2 1 aZ rfl rfl rfl rfl fun a hF=>?_
 refine S.ck st hF (rgc k43 (aI hF.p hF.o)) (aB (AH n xa xb xc xd _ (hT.below st.bel) (by first|assumption|constructor<;>omega) (by omega) (by omega)) (tj (by first|assumption|constructor<;>omega) (by omega) (by omega))) Rl.cl rfl fun vv4 w3 a st hF=>?_
 obtain⟨r6,rfl⟩:=Rq.fo (st.f 0 rfl).1
 refine S.ck st hF (rgc k42 (aD hF.o)) (aB (lU _ _ 90 _ (st.f 0 rfl).1 (st.f 0 rfl).2 (by omega)) (gj (by first|assumption|constructor<;>omega) (by omega) (by omega))) Rl.cl rfl fun vv8 w7 a st hF=>?_
 obtain⟨r10,rfl⟩:=Rq.fo (st.f 0 rfl).1
 refine so st hF 0 4 0 aa rfl rfl rfl rfl fun w11 a st hF=>?_
 refine nr ?_
 refine rs Tryz.results19 st hF 4 0 aa rfl rfl rfl ?_
 have bel:=st.bel
 exact⟨_,rfl,(st.f 0 rfl).1,bel⟩
theorem nZ (n xa xb xc xd:Int) (w:World) (hT:bG w) (hp:cf xa xb xc xd) (hn0: -4000000≤n) (hn1:n≤4000000):
 Calls Tryz.prog 106 #[.int .i64 n,.agg #[.int .i64 xa,.int .i64 xb,.int .i64 xc,.int .i64 xd]] w (bl w (bX (jl n xa xb xc xd))):=by
 have st:=St.start w
 refine go2 (nt:=9) Tryz.func106 rfl rfl rfl fun a hF=>?_
 refine wq ?_
 refine bx st hF 1 rfl rfl fun g3 w1 a st hF=>?_
 refine S.alloc st hF aa rfl rfl fun g4 w2 a st hF=>?_
 refine nq ?_
 refine oM hF 2 rfl rfl fun a hF=>oL hF st 2 1 aZ rfl rfl rfl rfl fun a hF=>?_
 refine S.ck st hF (rgc OR (aI hF.p hF.o)) (aB (zC n xa xb xc xd _ (hT.below st.bel) (by first|assumption|constructor<;>omega) (by omega) (by omega)) (y7 (by first|assumption|constructor<;>omega) (by omega) (by omega))) Rl.cl rfl fun vv4 w3 a st hF=>?_
 obtain⟨r6,rfl⟩:=Rq.fo (st.f 0 rfl).1
 refine S.ck st hF (rgc k42 (aD hF.o)) (aB (lU _ _ 90 _ (st.f 0 rfl).1 (st.f 0 rfl).2 (by omega)) (nD (by first|assumption|constructor<;>omega) (by omega) (by omega))) Rl.cl rfl fun vv8 w7 a st hF=>?_
 obtain⟨r10,rfl⟩:=Rq.fo (st.f 0 rfl).1
 refine so st hF 0 4 0 aa rfl rfl rfl rfl fun w11 a st hF=>?_
 refine nr ?_
 refine rs Tryz.results106 st hF 4 0 aa rfl rfl rfl ?_
 have bel:=st.bel
 exact⟨_,rfl,(st.f 0 rfl).1,bel⟩
end Go.Proofs.YtdbiegfmgabicaaGreatDoor
