import Derived.Test.YtnljadejcfgmaaaGreatDoorKA20
import Derived.Test.YtnljadejcfgmaaaGreatDoorKA21
import Derived.Test.YtnljadejcfgmaaaGreatDoorKA34
import Derived.Test.YtnljadejcfgmaaaGreatDoorKA38
namespace Go.Proofs.YtnljadejcfgmaaaGreatDoor
open Go.RowKit
set_option maxRecDepth 100000
set_option linter.unusedVariables false
set_option maxHeartbeats 8000000
theorem bs_rats5 {w:World} {v1 v2 v3 v4 v5:Value} {q1 q2 q3 q4 q5:Rat} (h1:Rq w v1 q1) (h2:Rq w v2 q2) (h3:Rq w v3 q3) (h4:Rq w v4 q4) (h5:Rq w v5 q5):
 ∃v w',(Instr.buildSlice 205 5 #[(0,v1),(1,v2),(2,v3),(3,v4),(4,v5)]).run Tryz.prog w= .ok v w'∧Below w.heap.size w w'∧QRow w' v [q1,q2,q3,q4,q5]:=by
 obtain⟨b1,ad1,n1,c1,ae1,m1,d1,rfl, -, -⟩:=h1.shape
 obtain⟨b2,ad2,n2,c2,ae2,m2,d2,rfl, -, -⟩:=h2.shape
 obtain⟨b3,ad3,n3,c3,ae3,m3,d3,rfl, -, -⟩:=h3.shape
 obtain⟨b4,ad4,n4,c4,ae4,m4,d4,rfl, -, -⟩:=h4.shape
 obtain⟨b5,ad5,n5,c5,ae5,m5,d5,rfl, -, -⟩:=h5.shape
 have ho:=own_new (w:=w) (cs:=[.bool b1,.slice ad1 n1 c1,.slice ae1 m1 d1,.bool b2,.slice ad2 n2 c2,.slice ae2 m2 d2,.bool b3,.slice ad3 n3 c3,.slice ae3 m3 d3,.bool b4,.slice ad4 n4 c4,.slice ae4 m4 d4,.bool b5,.slice ad5 n5 c5,.slice ae5 m5 d5]) 33 (niB (niS (niS (niB (niS (niS (niB (niS (niS (niB (niS (niS (niB (niS (niS ni0)))))))))))))))
 refine⟨.slice (some ⟨w.heap.size,0,none⟩) 5 5,w.alloc (.cells #[.bool b1,.slice ad1 n1 c1,.slice ae1 m1 d1,.bool b2,.slice ad2 n2 c2,.slice ae2 m2 d2,.bool b3,.slice ad3 n3 c3,.slice ae3 m3 d3,.bool b4,.slice ad4 n4 c4,.slice ae4 m4 d4,.bool b5,.slice ad5 n5 c5,.slice ae5 m5 d5] 33),?_,ho.2,_,_,rfl,ho.1,?_⟩
 ·have hs:=size_run (P:=Tryz.prog) sz_Rat w
  have hu:=run_underlying (P:=Tryz.prog) Tryz.underlying205 w
  have hz:=zero_run (P:=Tryz.prog) ze_Rat w
  simp[Instr.buildSlice,go_sem,hs,hu,Instr.fill,Value.cells,newRow]
 ·intro i hi
  have hi':i<5:=hi
  match i,hi' with
  |0,_=>exact⟨b1,ad1,n1,c1,ae1,m1,d1,rfl,h1.below ho.2⟩
  |1,_=>exact⟨b2,ad2,n2,c2,ae2,m2,d2,rfl,h2.below ho.2⟩
  |2,_=>exact⟨b3,ad3,n3,c3,ae3,m3,d3,rfl,h3.below ho.2⟩
  |3,_=>exact⟨b4,ad4,n4,c4,ae4,m4,d4,rfl,h4.below ho.2⟩
  |4,_=>exact⟨b5,ad5,n5,c5,ae5,m5,d5,rfl,h5.below ho.2⟩
theorem qs5 (q1 q2 q3 q4 q5:Rat):qsum [q1,q2,q3,q4,q5] 5=0+q1+q2+q3+q4+q5:=rfl
theorem rSum5 (v:Value) (q1 q2 q3 q4 q5:Rat) (k:Nat) (w:World) (h:QRow w v [q1,q2,q3,q4,q5]) (l1:RLim q1 k) (l2:RLim q2 k) (l3:RLim q3 k) (l4:RLim q4 k) (l5:RLim q5 k) (hk:k≤10000):Calls Tryz.prog 207 #[v] w (RqPost w (q1+q2+q3+q4+q5)):=by
 have e0:q1+q2+q3+q4+q5=qsum [q1,q2,q3,q4,q5] 5:=by rw[qs5,Rat.zero_add]
 rw[e0]
 have hp:=l1.pos
 refine rSum_any v [q1,q2,q3,q4,q5] (5*k+4) w h ?_ ?_ (by omega) (by simp)
 ·intro i hi
  have hi':i<6:=Nat.lt_succ_of_le hi
  match i,hi' with
  |0,_=>exact rlim_zero (by omega)
  |1,_=>show RLim (0+q1) _;rw[Rat.zero_add];exact l1.up _ (by omega)
  |2,_=>show RLim (0+q1+q2) _;rw[Rat.zero_add];exact(rlim_add l1 l2).up _ (by omega)
  |3,_=>show RLim (0+q1+q2+q3) _;rw[Rat.zero_add];exact(rlim_add (rlim_add l1 l2) l3).up _ (by omega)
  |4,_=>show RLim (0+q1+q2+q3+q4) _;rw[Rat.zero_add];exact(rlim_add (rlim_add (rlim_add l1 l2) l3) l4).up _ (by omega)
  |5,_=>show RLim (0+q1+q2+q3+q4+q5) _;rw[Rat.zero_add];exact(rlim_add (rlim_add (rlim_add (rlim_add l1 l2) l3) l4) l5).up _ (by omega)
 ·intro i hi
  have hi':i<5:=hi
  match i,hi' with
  |0,_=>exact l1.up _ (by omega)
  |1,_=>exact l2.up _ (by omega)
  |2,_=>exact l3.up _ (by omega)
  |3,_=>exact l4.up _ (by omega)
  |4,_=>exact l5.up _ (by omega)
theorem reGrain_any (v1:Value) (qt:Rat) (k:Nat) (w:World) (h1:Rq w v1 qt) (hl:RLim qt k) (hk:k≤2000):
 Calls Tryz.prog 55 #[v1] w (RqPost w (grainV qt)):=by
 have st:=St.start w
 refine E.enter (nt:=10) (L:=[(0,v1)]) Tryz.func55 rfl rfl rfl (args_cons (i:=0) rfl args_nil) ?_
 intro a hF
 refine wp_seq ?_
 refine E.seq ?_
 obtain⟨b2,ad2,n2,c2,ae2,m2,d2,rfl⟩:=Rq.form h1
 refine S.box st hF (hF.at 0 rfl) rfl rfl fun g1 w1 a st hF=>?_
 refine S.alloc st hF ty_Rat rfl rfl fun g2 w3 a st hF=>?_
 refine E.nil ?_
 refine wp_seq ?_
 refine E.rg 7 mixed hF [3,4,5,6,7,8,9] [_,_,_,_,_,_,_] (by decide+kernel) rfl rfl rfl ⟨rb st ty_Rat 1 1 rfl,ck st k40 rfl fun _ s=>rq_ret (rWhole_any (1048576) _ (by decide) (by decide)) (rlim_int (limz_64 (by decide) (by decide)) (by omega)),ck st k58 rfl fun _ s _ x4=>qMul ⟨(h1.below s.bel),hl⟩ x4,ck st k117 rfl fun _ s _ x5=>wc_ret (cFloor_any _ ((qt)*(((1048576:Int):Rat))) (k+2) _ x5.1 x5.2 (by omega)) (fl_lim x5.2),ck st k116 rfl fun _ s _ x6=>rq_ret (cOf_any _ (Rat.floor ((qt)*(((1048576:Int):Rat)))) _ (Wc.wz x6.1)) (rlim_int (Lim.up x6.2 (((k+2)+1)+1) (by omega)) (by omega)),ck st k35 rfl fun _ s=>rq_ret (rOf2_any (1) (1048576) _ (by decide) (by decide) (by decide) (by decide)) (RLim.up (rlim_mk2 (limz_64 (by decide) (by decide)) (limz_64 (by decide) (by decide))) 2 (by decide)),ck st k58 rfl fun _ s _ x7 _ x8=>qMul x7 x8,trivial⟩ ?_
 intro a w4 hF bb hall
 replace st:=st.to bb
 obtain⟨vv5,hF,st⟩:=rS hall hF st 6 rfl rfl Rl.cl
 obtain⟨b7,ad7,n7,c7,ae7,m7,d7,rfl⟩:=Rq.form (st.f 0 rfl).1
 clear hall bb
 refine S.sto st hF 0 rfl (hF.at 1 rfl) (hF.at 0 rfl) ty_Rat rfl rfl rfl rfl fun w8 a st hF=>?_
 refine E.nil ?_
 refine wp_ret ?_
 refine S.ret Tryz.results55 st hF (hF.at 1 rfl) 0 rfl ty_Rat rfl hF.dfr ?_
 have bel:=st.bel
 exact⟨_,rfl,(st.f 0 rfl).1,bel⟩
theorem rePrecession_any (v1:Value) (qt:Rat) (k:Nat) (w:World) (h1:Rq w v1 qt) (hl:RLim qt k) (hk:k≤20):
 Calls Tryz.prog 235 #[v1] w (RqPost w (precV qt)):=by
 have st:=St.start w
 refine E.enter (nt:=22) (L:=[(0,v1)]) Tryz.func235 rfl rfl rfl (args_cons (i:=0) rfl args_nil) ?_
 intro a hF
 refine wp_seq ?_
 refine E.seq ?_
 obtain⟨b2,ad2,n2,c2,ae2,m2,d2,rfl⟩:=Rq.form h1
 refine S.box st hF (hF.at 0 rfl) rfl rfl fun g1 w1 a st hF=>?_
 refine S.alloc st hF ty_Rat rfl rfl fun g2 w3 a st hF=>?_
 refine E.nil ?_
 refine wp_seq ?_
 refine E.rga 6 mixed hF [5,6,7,8,9,3] [_,_,_,_,_,kn w3 [.bool false,.slice none 0 0,.slice none 0 0]] [5] ⟨fun _ _ ⟨g,e,_,o⟩=>⟨g,e,o.lt⟩,trivial⟩ (by decide+kernel) rfl rfl rfl ⟨rb st ty_Rat 1 1 rfl,ck st k40 rfl fun _ s=>rq_ret (rWhole_any ((-1132959)) _ (by decide) (by decide)) (rlim_int (limz_64 (by decide) (by decide)) (by omega)),ck st k57 rfl fun _ s _ x6=>qSub ⟨(h1.below s.bel),hl⟩ x6,ck st k35 rfl fun _ s=>rq_ret (rOf2_any (600) (1577917828) _ (by decide) (by decide) (by decide) (by decide)) (RLim.up (rlim_mk2 (limz_64 (by decide) (by decide)) (limz_64 (by decide) (by decide))) 2 (by decide)),ck st k58 rfl fun _ s _ x7 _ x8=>qMul x7 x8,ra ty_Rat rfl rfl,trivial⟩ ?_
 intro a w4 hF bb hall hne
 have s0:=st
 replace st:=st.to bb
 obtain⟨vv5,hF,st⟩:=rS hall hF st 4 rfl rfl Rl.cl
 obtain⟨b7,ad7,n7,c7,ae7,m7,d7,rfl⟩:=Rq.form (st.f 0 rfl).1
 obtain⟨_,e3,g3,rfl,ge3,o3⟩:=sS hall 5 3 rfl rfl
 replace st:=st.push o3.blk (Nat.le_trans s0.bel.size ge3) (s0.ne ge3)
 clear o3
 replace hF:=hF.add e3
 clear hall bb hne s0
 refine S.sto st hF 0 rfl (hF.at 0 rfl) (hF.at 1 rfl) ty_Rat rfl rfl rfl rfl fun w8 a st hF=>?_
 refine E.nil ?_
 refine wp_seq ?_
 refine E.rga 7 mixed hF [10,11,12,13,14,15,4] [_,_,_,_,_,_,kn w8 [.bool false,.slice none 0 0,.slice none 0 0]] [6] ⟨fun _ _ ⟨g,e,_,o⟩=>⟨g,e,o.lt⟩,trivial⟩ (by decide+kernel) rfl rfl rfl ⟨rb st ty_Rat 0 0 rfl,ck st k35 rfl fun _ s=>rq_ret (rOf2_any (1) (4) _ (by decide) (by decide) (by decide) (by decide)) (RLim.up (rlim_mk2 (limz_64 (by decide) (by decide)) (limz_64 (by decide) (by decide))) 2 (by decide)),ck st k57 rfl fun _ s _ x11=>qSub (s.f 0 rfl) x11,ck st k35 rfl fun _ s=>rq_ret (rOf2_any ((-1)) (2) _ (by decide) (by decide) (by decide) (by decide)) (RLim.up (rlim_mk2 (limz_64 (by decide) (by decide)) (limz_64 (by decide) (by decide))) 2 (by decide)),ck st k35 rfl fun _ s=>rq_ret (rOf2_any (1) (2) _ (by decide) (by decide) (by decide) (by decide)) (RLim.up (rlim_mk2 (limz_64 (by decide) (by decide)) (limz_64 (by decide) (by decide))) 2 (by decide)),ck st k254 rfl fun _ s _ x12 _ x13 _ x14=>qInto x12 x13 x14,ra ty_Rat rfl rfl,trivial⟩ ?_
 intro a w9 hF bb hall hne
 have s0:=st
 replace st:=st.to bb
 obtain⟨vv10,hF,st⟩:=rS hall hF st 5 rfl rfl Rl.cl
 obtain⟨b12,ad12,n12,c12,ae12,m12,d12,rfl⟩:=Rq.form (st.f 0 rfl).1
 obtain⟨_,e4,g4,rfl,ge4,o4⟩:=sS hall 6 4 rfl rfl
 replace st:=st.push o4.blk (Nat.le_trans s0.bel.size ge4) (s0.ne ge4)
 clear o4
 replace hF:=hF.add e4
 clear hall bb hne s0
 refine S.sto st hF 0 rfl (hF.at 0 rfl) (hF.at 1 rfl) ty_Rat rfl rfl rfl rfl fun w13 a st hF=>?_
 refine E.nil ?_
 refine wp_seq ?_
 refine E.rg 6 mixed hF [16,17,18,19,20,21] [_,_,_,_,_,_] (by decide+kernel) rfl rfl rfl ⟨ck st k40 rfl fun _ s=>rq_ret (rWhole_any (27) _ (by decide) (by decide)) (rlim_int (limz_64 (by decide) (by decide)) (by omega)),rb st ty_Rat 0 0 rfl,ck st k224 rfl fun _ s=>qAbs (s.f 0 rfl),ck st k40 rfl fun _ s=>rq_ret (rWhole_any (108) _ (by decide) (by decide)) (rlim_int (limz_64 (by decide) (by decide)) (by omega)),ck st k58 rfl fun _ s _ x18 _ x19=>qMul x18 x19,ck st k57 rfl fun _ s _ x16 _ x20=>qSub x16 x20,trivial⟩ ?_
 intro a w14 hF bb hall
 replace st:=st.to bb
 obtain⟨vv15,hF,st⟩:=rS hall hF st 5 rfl rfl Rl.cl
 obtain⟨b17,ad17,n17,c17,ae17,m17,d17,rfl⟩:=Rq.form (st.f 0 rfl).1
 clear hall bb
 refine S.sto st hF 2 rfl (hF.at 5 rfl) (hF.at 0 rfl) ty_Rat rfl rfl rfl rfl fun w18 a st hF=>?_
 refine E.nil ?_
 refine wp_ret ?_
 refine S.ret Tryz.results235 st hF (hF.at 5 rfl) 2 rfl ty_Rat rfl hF.dfr ?_
 have bel:=st.bel
 exact⟨_,rfl,Rq.castM (st.f 0 rfl).1 (by unfold precV;rw[Rat.mul_comm ((108:Int):Rat)];rfl),bel⟩
theorem reTropical_any (v1:Value) (qt:Rat) (k:Nat) (w:World) (hT:TabD w) (h1:Rq w v1 qt) (hl:RLim qt k) (hk:k≤20):
 Calls Tryz.prog 202 #[v1] w (RqPost w (tropV qt)):=by
 have st:=St.start w
 refine E.enter (nt:=10) (L:=[(0,v1)]) Tryz.func202 rfl rfl rfl (args_cons (i:=0) rfl args_nil) ?_
 intro a hF
 refine wp_seq ?_
 refine E.seq ?_
 obtain⟨b2,ad2,n2,c2,ae2,m2,d2,rfl⟩:=Rq.form h1
 refine S.box st hF (hF.at 0 rfl) rfl rfl fun g1 w1 a st hF=>?_
 refine S.alloc st hF ty_Rat rfl rfl fun g2 w3 a st hF=>?_
 refine E.nil ?_
 refine wp_seq ?_
 refine E.rg 7 mixed hF [3,4,5,6,7,8,9] [_,_,_,_,_,_,_] (by decide+kernel) rfl rfl rfl ⟨rb st ty_Rat 1 1 rfl,ck st k78 rfl fun _ s=>qoSunO (hT.below s.bel) ⟨(h1.below s.bel),hl⟩,rb st ty_Rat 1 1 rfl,ck st k235 rfl fun _ s=>rq_ret (rePrecession_any _ (qt) k _ (h1.below s.bel) hl (by omega)) (prec_lim hl),ck st k57 rfl fun _ s _ x4 _ x6=>qSub x4 x6,ck st k40 rfl fun _ s=>rq_ret (rWhole_any (360) _ (by decide) (by decide)) (rlim_int (limz_64 (by decide) (by decide)) (by omega)),ck st k220 rfl fun _ s _ x7 _ x8=>qMod3 x7 x8,trivial⟩ ?_
 intro a w4 hF bb hall
 replace st:=st.to bb
 obtain⟨vv5,hF,st⟩:=rS hall hF st 6 rfl rfl Rl.cl
 obtain⟨b7,ad7,n7,c7,ae7,m7,d7,rfl⟩:=Rq.form (st.f 0 rfl).1
 clear hall bb
 refine S.sto st hF 0 rfl (hF.at 1 rfl) (hF.at 0 rfl) ty_Rat rfl rfl rfl rfl fun w8 a st hF=>?_
 refine E.nil ?_
 refine wp_ret ?_
 refine S.ret Tryz.results202 st hF (hF.at 1 rfl) 0 rfl ty_Rat rfl hF.dfr ?_
 have bel:=st.bel
 exact⟨_,rfl,(st.f 0 rfl).1,bel⟩
theorem reanomaly_any (v1:Value) (qt:Rat) (k:Nat) (w:World) (h1:Rq w v1 qt) (hl:RLim qt k) (hk:k≤20):
 Calls Tryz.prog 201 #[v1] w (RqPost w (mof qt pay)):=by
 have st:=St.start w
 refine E.enter (nt:=6) (L:=[(0,v1)]) Tryz.func201 rfl rfl rfl (args_cons (i:=0) rfl args_nil) ?_
 intro a hF
 refine wp_seq ?_
 refine E.seq ?_
 obtain⟨b2,ad2,n2,c2,ae2,m2,d2,rfl⟩:=Rq.form h1
 refine S.box st hF (hF.at 0 rfl) rfl rfl fun g1 w1 a st hF=>?_
 refine S.alloc st hF ty_Rat rfl rfl fun g2 w3 a st hF=>?_
 refine E.nil ?_
 refine wp_seq ?_
 refine E.rg 3 mixed hF [3,4,5] [_,_,_] (by decide+kernel) rfl rfl rfl ⟨rb st ty_Rat 1 1 rfl,ck st k184 rfl fun _ s=>qmAnomalyYearM,ck st k186 rfl fun _ s _ x4=>qmOfM ⟨(h1.below s.bel),hl⟩ x4,trivial⟩ ?_
 intro a w4 hF bb hall
 replace st:=st.to bb
 obtain⟨vv5,hF,st⟩:=rS hall hF st 2 rfl rfl Rl.cl
 obtain⟨b7,ad7,n7,c7,ae7,m7,d7,rfl⟩:=Rq.form (st.f 0 rfl).1
 clear hall bb
 refine S.sto st hF 0 rfl (hF.at 1 rfl) (hF.at 0 rfl) ty_Rat rfl rfl rfl rfl fun w8 a st hF=>?_
 refine E.nil ?_
 refine wp_ret ?_
 refine S.ret Tryz.results201 st hF (hF.at 1 rfl) 0 rfl ty_Rat rfl hF.dfr ?_
 have bel:=st.bel
 exact⟨_,rfl,(st.f 0 rfl).1,bel⟩
theorem reepicycle_any (v1:Value) (qt:Rat) (k:Nat) (w:World) (h1:Rq w v1 qt) (hl:RLim qt k) (hk:k≤1000):
 Calls Tryz.prog 237 #[v1] w (RqPost w (epiQ qt)):=by
 have st:=St.start w
 refine E.enter (nt:=9) (L:=[(0,v1)]) Tryz.func237 rfl rfl rfl (args_cons (i:=0) rfl args_nil) ?_
 intro a hF
 refine wp_seq ?_
 refine E.seq ?_
 obtain⟨b2,ad2,n2,c2,ae2,m2,d2,rfl⟩:=Rq.form h1
 refine S.box st hF (hF.at 0 rfl) rfl rfl fun g1 w1 a st hF=>?_
 refine S.alloc st hF ty_Rat rfl rfl fun g2 w3 a st hF=>?_
 refine E.nil ?_
 refine wp_seq ?_
 refine E.rg 6 mixed hF [3,4,5,6,7,8] [_,_,_,_,_,_] (by decide+kernel) rfl rfl rfl ⟨ck st k35 rfl fun _ s=>rq_ret (rOf2_any (14) (360) _ (by decide) (by decide) (by decide) (by decide)) (RLim.up (rlim_mk2 (limz_64 (by decide) (by decide)) (limz_64 (by decide) (by decide))) 2 (by decide)),rb st ty_Rat 1 1 rfl,ck st k224 rfl fun _ s=>qAbs ⟨(h1.below s.bel),hl⟩,ck st k35 rfl fun _ s=>rq_ret (rOf2_any (1) (1080) _ (by decide) (by decide) (by decide) (by decide)) (RLim.up (rlim_mk2 (limz_64 (by decide) (by decide)) (limz_64 (by decide) (by decide))) 2 (by decide)),ck st k58 rfl fun _ s _ x5 _ x6=>qMul x5 x6,ck st k57 rfl fun _ s _ x3 _ x7=>qSub x3 x7,trivial⟩ ?_
 intro a w4 hF bb hall
 replace st:=st.to bb
 obtain⟨vv5,hF,st⟩:=rS hall hF st 5 rfl rfl Rl.cl
 obtain⟨b7,ad7,n7,c7,ae7,m7,d7,rfl⟩:=Rq.form (st.f 0 rfl).1
 clear hall bb
 refine S.sto st hF 0 rfl (hF.at 1 rfl) (hF.at 0 rfl) ty_Rat rfl rfl rfl rfl fun w8 a st hF=>?_
 refine E.nil ?_
 refine wp_ret ?_
 refine S.ret Tryz.results237 st hF (hF.at 1 rfl) 0 rfl ty_Rat rfl hF.dfr ?_
 have bel:=st.bel
 exact⟨_,rfl,(st.f 0 rfl).1,bel⟩
theorem remotion_any (v1:Value) (qt:Rat) (k:Nat) (w:World) (hT:TabD w) (h1:Rq w v1 qt) (hl:RLim qt k) (hk:k≤300):
 Calls Tryz.prog 204 #[v1] w (RqPost w (motQ qt)):=by
 have hpk:=pk_bd qt
 have hsa:=sp_step (pk qt)
 have st:=St.start w
 refine E.enter (nt:=18) (L:=[(0,v1)]) Tryz.func204 rfl rfl rfl (args_cons (i:=0) rfl args_nil) ?_
 intro a hF
 refine wp_seq ?_
 refine E.seq ?_
 obtain⟨b2,ad2,n2,c2,ae2,m2,d2,rfl⟩:=Rq.form h1
 refine S.box st hF (hF.at 0 rfl) rfl rfl fun g1 w1 a st hF=>?_
 refine S.alloc st hF ty_Rat rfl rfl fun g2 w3 a st hF=>?_
 refine E.nil ?_
 refine wp_seq ?_
 refine E.rga 8 mixed hF [4,5,6,7,8,9,10,3] [_,_,_,_,_,_,_,kn w3 [.bool false,.slice none 0 0,.slice none 0 0]] [7] ⟨fun _ _ ⟨g,e,_,o⟩=>⟨g,e,o.lt⟩,trivial⟩ (by decide+kernel) rfl rfl rfl ⟨rb st ty_Rat 1 1 rfl,ck st k236 rfl fun _ s=>ex_ret (step_any _ (qt) k _ (hT.below s.bel) (h1.below s.bel) hl (by omega)),ck st k35 rfl fun _ s=>rq_ret (rOf2_any (spk (pk (qt)+1)-spk (pk (qt))) (225) _ (dif64 (pk (qt))).1 (dif64 (pk (qt))).2 (by decide) (by decide)) (RLim.up (rlim_mk2 (limz_64 (dif64 (pk (qt))).1 (dif64 (pk (qt))).2) (limz_64 (by decide) (by decide))) 2 (by decide)),rb st ty_Rat 1 1 rfl,ck st k223 rfl fun _ s=>qOf (hT.below s.bel) ⟨(h1.below s.bel),hl⟩,ck st k237 rfl fun _ s _ x8=>rq_ret (reepicycle_any _ (sof (qt)) (k+12) _ x8.1 x8.2 (by omega)) (epiQ_lim x8.2),ck st k58 rfl fun _ s _ x6 _ x9=>qMul x6 x9,ra ty_Rat rfl rfl,trivial⟩ ?_
 intro a w4 hF bb hall hne
 have s0:=st
 replace st:=st.to bb
 obtain⟨vv5,hF,st⟩:=rS hall hF st 6 rfl rfl Rl.cl
 obtain⟨b7,ad7,n7,c7,ae7,m7,d7,rfl⟩:=Rq.form (st.f 0 rfl).1
 obtain⟨_,e3,g3,rfl,ge3,o3⟩:=sS hall 7 3 rfl rfl
 replace st:=st.push o3.blk (Nat.le_trans s0.bel.size ge3) (s0.ne ge3)
 clear o3
 replace hF:=hF.add e3
 clear hall bb hne s0
 refine S.sto st hF 0 rfl (hF.at 0 rfl) (hF.at 1 rfl) ty_Rat rfl rfl rfl rfl fun w8 a st hF=>?_
 refine E.nil ?_
 refine wp_seq ?_
 refine E.rg 7 mixed hF [11,12,13,14,15,16,17] [_,_,_,_,_,_,_] (by decide+kernel) rfl rfl rfl ⟨ck st k40 rfl fun _ s=>rq_ret (rWhole_any (360) _ (by decide) (by decide)) (rlim_int (limz_64 (by decide) (by decide)) (by omega)),ck st k76 rfl fun _ s=>qmYearM,ck st k75 rfl fun _ s _ x11 _ x12=>qDiv x11 x12,ck st k40 rfl fun _ s=>rq_ret (rWhole_any (1) _ (by decide) (by decide)) (rlim_int (limz_64 (by decide) (by decide)) (by omega)),rb st ty_Rat 0 0 rfl,ck st k57 rfl fun _ s _ x14=>qSub x14 (s.f 0 rfl),ck st k58 rfl fun _ s _ x13 _ x16=>qMul x13 x16,trivial⟩ ?_
 intro a w9 hF bb hall
 replace st:=st.to bb
 obtain⟨vv10,hF,st⟩:=rS hall hF st 6 rfl rfl Rl.cl
 obtain⟨b12,ad12,n12,c12,ae12,m12,d12,rfl⟩:=Rq.form (st.f 0 rfl).1
 clear hall bb
 refine S.sto st hF 1 rfl (hF.at 3 rfl) (hF.at 0 rfl) ty_Rat rfl rfl rfl rfl fun w13 a st hF=>?_
 refine E.nil ?_
 refine wp_ret ?_
 refine S.ret Tryz.results204 st hF (hF.at 3 rfl) 1 rfl ty_Rat rfl hF.dfr ?_
 have bel:=st.bel
 exact⟨_,rfl,(st.f 0 rfl).1,bel⟩
theorem reequation_any (v1:Value) (qt:Rat) (k:Nat) (w:World) (hT:TabD w) (h1:Rq w v1 qt) (hl:RLim qt k) (hk:k≤300):
 Calls Tryz.prog 208 #[v1] w (RqPost w (eqnQ qt)):=by
 have st:=St.start w
 refine E.enter (nt:=23) (L:=[(0,v1)]) Tryz.func208 rfl rfl rfl (args_cons (i:=0) rfl args_nil) ?_
 intro a hF
 refine wp_seq ?_
 refine E.seq ?_
 obtain⟨b2,ad2,n2,c2,ae2,m2,d2,rfl⟩:=Rq.form h1
 refine S.box st hF (hF.at 0 rfl) rfl rfl fun g1 w1 a st hF=>?_
 refine S.alloc st hF ty_Rat rfl rfl fun g2 w3 a st hF=>?_
 refine E.nil ?_
 refine wp_seq ?_
 refine E.seq ?_
 refine E.opv hF (r_load (hF.at 1 rfl) (ld_all ty_Rat (st.bk 1 rfl) rfl)) rfl rfl rfl rfl fun a hF=>?_
 refine S.ck st hF (rgc k223 (map1 (hF.at 0 rfl))) (qOf (hT.below st.bel) ⟨(h1.below st.bel),hl⟩) Rl.cl rfl fun vv5 w4 a st hF=>?_
 obtain⟨b7,ad7,n7,c7,ae7,m7,d7,rfl⟩:=Rq.form (st.f 0 rfl).1
 refine S.new st hF 0 rfl ty_Rat rfl rfl rfl rfl rfl fun g3 w8 a st hF=>?_
 refine E.nil ?_
 refine wp_seq ?_
 refine E.rga 7 mixed hF [7,8,9,10,11,12,4] [_,_,_,_,_,_,kn w8 [.bool false,.slice none 0 0,.slice none 0 0]] [6] ⟨fun _ _ ⟨g,e,_,o⟩=>⟨g,e,o.lt⟩,trivial⟩ (by decide+kernel) rfl rfl rfl ⟨rb st ty_Rat 0 0 rfl,ck st k35 rfl fun _ s=>rq_ret (rOf2_any (573) (10) _ (by decide) (by decide) (by decide) (by decide)) (RLim.up (rlim_mk2 (limz_64 (by decide) (by decide)) (limz_64 (by decide) (by decide))) 2 (by decide)),ck st k58 rfl fun _ s _ x8=>qMul (s.f 0 rfl) x8,rb st ty_Rat 0 0 rfl,ck st k237 rfl fun _ s=>rq_ret (reepicycle_any _ (sof (qt)) (k+12) _ (s.f 0 rfl).1 (s.f 0 rfl).2 (by omega)) (epiQ_lim (s.f 0 rfl).2),ck st k58 rfl fun _ s _ x9 _ x11=>qMul x9 x11,ra ty_Rat rfl rfl,trivial⟩ ?_
 intro a w9 hF bb hall hne
 have s0:=st
 replace st:=st.to bb
 obtain⟨vv10,hF,st⟩:=rS hall hF st 5 rfl rfl Rl.cl
 obtain⟨b12,ad12,n12,c12,ae12,m12,d12,rfl⟩:=Rq.form (st.f 0 rfl).1
 obtain⟨_,e4,g4,rfl,ge4,o4⟩:=sS hall 6 4 rfl rfl
 replace st:=st.push o4.blk (Nat.le_trans s0.bel.size ge4) (s0.ne ge4)
 clear o4
 replace hF:=hF.add e4
 clear hall bb hne s0
 refine S.sto st hF 0 rfl (hF.at 0 rfl) (hF.at 1 rfl) ty_Rat rfl rfl rfl rfl fun w13 a st hF=>?_
 refine E.nil ?_
 refine wp_seq ?_
 refine E.rg 10 mixed hF [13,14,15,16,17,18,19,20,21,22] [_,_,_,_,_,_,_,_,_,_] (by decide+kernel) rfl rfl rfl ⟨rb st ty_Rat 6 3 rfl,ck st k204 rfl fun _ s=>rq_ret (remotion_any _ (qt) k _ (hT.below s.bel) (h1.below s.bel) hl (by omega)) (motQ_lim hl),ck st k35 rfl fun _ s=>rq_ret (rOf2_any (1) (360) _ (by decide) (by decide) (by decide) (by decide)) (RLim.up (rlim_mk2 (limz_64 (by decide) (by decide)) (limz_64 (by decide) (by decide))) 2 (by decide)),ck st k58 rfl fun _ s _ x14 _ x15=>qMul x14 x15,rb st ty_Rat 0 0 rfl,ck st k35 rfl fun _ s=>rq_ret (rOf2_any (1) (360) _ (by decide) (by decide) (by decide) (by decide)) (RLim.up (rlim_mk2 (limz_64 (by decide) (by decide)) (limz_64 (by decide) (by decide))) 2 (by decide)),ck st k58 rfl fun _ s _ x18=>qMul (s.f 0 rfl) x18,ck st k58 rfl fun _ s _ x16 _ x19=>qMul x16 x19,ck st k76 rfl fun _ s=>qmYearM,ck st k58 rfl fun _ s _ x20 _ x21=>qMul x20 x21,trivial⟩ ?_
 intro a w14 hF bb hall
 replace st:=st.to bb
 obtain⟨vv15,hF,st⟩:=rS hall hF st 9 rfl rfl Rl.cl
 obtain⟨b17,ad17,n17,c17,ae17,m17,d17,rfl⟩:=Rq.form (st.f 0 rfl).1
 clear hall bb
 refine S.sto st hF 2 rfl (hF.at 6 rfl) (hF.at 0 rfl) ty_Rat rfl rfl rfl rfl fun w18 a st hF=>?_
 refine E.nil ?_
 refine wp_ret ?_
 refine S.ret Tryz.results208 st hF (hF.at 6 rfl) 2 rfl ty_Rat rfl hF.dfr ?_
 have bel:=st.bel
 exact⟨_,rfl,(st.f 0 rfl).1,bel⟩
theorem days30_any (v1:Value) (qt:Rat) (k:Nat) (w:World) (h1:Rq w v1 (qt*(((1:Int):Rat)/((30:Int):Rat)))) (hl:RLim (qt*(((1:Int):Rat)/((30:Int):Rat))) k) (hk:k≤10000) (h0:0≤qt) (h3:qt<((360:Int):Rat)):Calls Tryz.prog 89 #[v1] w (ValPost w (.tuple #[.int .i64 (prt qt 12),.bool true])):=by
 have h:=cDays_any v1 _ k w h1 hl hk
 rwa[(sm30 h0 h3).1,(sm30 h0 h3).2] at h
theorem rerising_any (v1:Value) (qt:Rat) (k:Nat) (w:World) (h1:Rq w v1 qt) (hl:RLim qt k) (hk:k≤300) (h0:0≤qt) (h3:qt<((360:Int):Rat)):
 Calls Tryz.prog 205 #[v1] w (RqPost w (risQ qt)):=by
 have hpt:=prt_bd (x:=qt) (n:=12) (by omega) h0 h3
 have st:=St.start w
 refine E.enter (nt:=19) (L:=[(0,v1)]) Tryz.func205 rfl rfl rfl (args_cons (i:=0) rfl args_nil) ?_
 intro a hF
 refine wp_seq ?_
 refine E.seq ?_
 obtain⟨b2,ad2,n2,c2,ae2,m2,d2,rfl⟩:=Rq.form h1
 refine S.box st hF (hF.at 0 rfl) rfl rfl fun g1 w1 a st hF=>?_
 refine S.alloc st hF ty_Rat rfl rfl fun g2 w3 a st hF=>?_
 refine E.nil ?_
 refine wp_seq ?_
 refine E.seq ?_
 refine E.opv hF (r_build (pair6 ev_c ev_c ev_c ev_c ev_c ev_c) (bd_A6_012345 _ _ _ _ _ _ _)) rfl rfl rfl rfl fun a hF=>?_
 refine S.new st hF 0 rfl ty_A6 rfl rfl rfl rfl rfl fun g3 w4 a st hF=>?_
 refine E.nil ?_
 refine wp_seq ?_
 refine E.rg 9 mixed hF [8,9,10,11,7,12,13,4,5] [_,_,_,_,.ex (.tuple #[.int .i64 (prt qt 12),.bool true]),.ex (.int .i64 (prt qt 12)),.ex (.bool true),.ex (.int .i64 (prt qt 12)),.ex (.bool true)] (by decide+kernel) rfl rfl rfl ⟨rb st ty_Rat 3 2 rfl,ck st k35 rfl fun _ s=>rq_ret (rOf2_any (1) (30) _ (by decide) (by decide) (by decide) (by decide)) (RLim.up (rlim_mk2 (limz_64 (by decide) (by decide)) (limz_64 (by decide) (by decide))) 2 (by decide)),ck st k58 rfl fun _ s _ x9=>qMul ⟨(h1.below s.bel),hl⟩ x9,ck st k89 rfl fun _ s _ x10=>ex_ret (days30_any _ qt (k+2) _ x10.1 x10.2 (by omega) h0 h3),(by intro a' w' hF' hb hd;have e11:=sHe hd 0 11 rfl rfl rfl rfl;exact dv0 (r_move e11) rfl rfl rfl),(by intro a' w' hF' hb hd;have e7:=sHe hd 0 7 rfl rfl rfl rfl;exact dv0 (r_extract (v:= .int .i64 (prt qt 12)) e7 rfl) rfl rfl rfl),(by intro a' w' hF' hb hd;have e7:=sHe hd 0 7 rfl rfl rfl rfl;exact dv0 (r_extract (v:= .bool true) e7 rfl) rfl rfl rfl),(by intro a' w' hF' hb hd;have e12:=sHe hd 0 12 rfl rfl rfl rfl;exact dv0 (r_assign e12) rfl rfl rfl),(by intro a' w' hF' hb hd;have e13:=sHe hd 0 13 rfl rfl rfl rfl;exact dv0 (r_assign e13) rfl rfl rfl),trivial⟩ ?_
 intro a w5 hF bb hall
 replace st:=st.to bb
 replace hF:=rE hall hF 7 rfl rfl
 clear hall bb
 refine E.nil ?_
 refine wp_seq ?_
 refine E.seq ?_
 refine E.opv hF (r_move (hF.at 0 rfl)) rfl rfl rfl rfl fun a hF=>?_
 refine E.opv hF (r_bin (hF.at 0 rfl) ev_c eg_scalar (id_remn (a:=prt qt 12) (b:=6) (by omega) (by omega))) rfl rfl rfl rfl fun a hF=>?_
 refine E.opv hF (r_index (hF.at 3 rfl) (hF.at 0 rfl) (ix_A6 (by omega) (by omega))) rfl rfl rfl rfl fun a hF=>?_
 refine E.opv hF (r_load (hF.at 0 rfl) (ldb_i64 (v:= .int .i64 (risT (prt qt 12))) (st.bk 0 rfl) risT_ix)) rfl rfl rfl rfl fun a hF=>?_
 refine S.ck st hF (rgc k35 (map2 (hF.at 0 rfl) ev_c)) (rq_ret (rOf2_any (risT (prt qt 12)) (1800) _ (by have:=risT_bd (prt qt 12);omega) (by have:=risT_bd (prt qt 12);omega) (by decide) (by decide)) (RLim.up (rlim_mk2 (limz_64 (by have:=risT_bd (prt qt 12);omega) (by have:=risT_bd (prt qt 12);omega)) (limz_64 (by decide) (by decide))) 2 (by decide))) Rl.cl rfl fun vv7 w6 a st hF=>?_
 obtain⟨b9,ad9,n9,c9,ae9,m9,d9,rfl⟩:=Rq.form (st.f 0 rfl).1
 refine S.sto st hF 1 rfl (hF.at 8 rfl) (hF.at 0 rfl) ty_Rat rfl rfl rfl rfl fun w10 a st hF=>?_
 refine E.nil ?_
 refine wp_ret ?_
 refine S.ret Tryz.results205 st hF (hF.at 8 rfl) 1 rfl ty_Rat rfl hF.dfr ?_
 have bel:=st.bel
 exact⟨_,rfl,(st.f 0 rfl).1,bel⟩
theorem redifference_any (v1:Value) (qt:Rat) (xa xb xc xd:Int) (k:Nat) (w:World) (hT:TabD w) (h1:Rq w v1 qt) (hl:RLim qt k) (hk:k≤300) (hxa0: -9223372036854775808≤xa) (hxa1:xa≤9223372036854775807) (hxb0: -9223372036854775808≤xb) (hxb1:xb≤9223372036854775807):
 Calls Tryz.prog 206 #[v1,.agg #[.int .i64 xa,.int .i64 xb,.int .i64 xc,.int .i64 xd]] w (RqPost w (diffQ qt (((xa:Int):Rat)/((xb:Int):Rat)))):=by
 have st:=St.start w
 refine E.enter (nt:=28) (L:=[(0,v1),(1,.agg #[.int .i64 xa,.int .i64 xb,.int .i64 xc,.int .i64 xd])]) Tryz.func206 rfl rfl rfl (args_cons (i:=0) rfl (args_cons (i:=1) rfl args_nil)) ?_
 intro a hF
 refine wp_seq ?_
 refine E.seq ?_
 obtain⟨b2,ad2,n2,c2,ae2,m2,d2,rfl⟩:=Rq.form h1
 refine S.box st hF (hF.at 0 rfl) rfl rfl fun g2 w1 a st hF=>?_
 refine S.box st hF (hF.at 2 rfl) rfl rfl fun g3 w3 a st hF=>?_
 refine S.alloc st hF ty_Rat rfl rfl fun g4 w4 a st hF=>?_
 refine E.nil ?_
 refine wp_seq ?_
 refine E.seq ?_
 refine E.opv hF (r_load (hF.at 2 rfl) (ld_all ty_Rat (st.bk 2 rfl) rfl)) rfl rfl rfl rfl fun a hF=>?_
 refine S.ck st hF (rgc k223 (map1 (hF.at 0 rfl))) (qOf (hT.below st.bel) ⟨(h1.below st.bel),hl⟩) Rl.cl rfl fun vv6 w5 a st hF=>?_
 obtain⟨b8,ad8,n8,c8,ae8,m8,d8,rfl⟩:=Rq.form (st.f 0 rfl).1
 refine S.ck st hF (rgc k35 (map2 ev_c ev_c)) (rq_ret (rOf2_any (1397) (3438) _ (by decide) (by decide) (by decide) (by decide)) (RLim.up (rlim_mk2 (limz_64 (by decide) (by decide)) (limz_64 (by decide) (by decide))) 2 (by decide))) Rl.cl rfl fun vv10 w9 a st hF=>?_
 obtain⟨b12,ad12,n12,c12,ae12,m12,d12,rfl⟩:=Rq.form (st.f 0 rfl).1
 refine S.ck st hF (rgc k58 (map2 (hF.at 1 rfl) (hF.at 0 rfl))) (qMul (st.f 1 rfl) (st.f 0 rfl)) Rl.cl rfl fun vv14 w13 a st hF=>?_
 obtain⟨b16,ad16,n16,c16,ae16,m16,d16,rfl⟩:=Rq.form (st.f 0 rfl).1
 refine S.new st hF 0 rfl ty_Rat rfl rfl rfl rfl rfl fun g5 w17 a st hF=>?_
 refine E.nil ?_
 refine wp_seq ?_
 refine E.seq ?_
 refine E.opv hF (r_load (hF.at 6 rfl) (ld_all ty_Plc (st.bk 2 rfl) rfl)) rfl rfl rfl rfl fun a hF=>?_
 refine S.ck st hF (rgc k238 (map1 (hF.at 0 rfl))) (rq_ret (pLatitude_any xa xb xc xd _ hxa0 hxa1 hxb0 hxb1) (lim64q (n:=xa) (d:=xb) hxa0 hxa1 hxb0 hxb1)) Rl.cl rfl fun vv19 w18 a st hF=>?_
 obtain⟨b21,ad21,n21,c21,ae21,m21,d21,rfl⟩:=Rq.form (st.f 0 rfl).1
 refine S.new st hF 0 rfl ty_Rat rfl rfl rfl rfl rfl fun g6 w22 a st hF=>?_
 refine E.nil ?_
 refine wp_seq ?_
 refine E.rga 8 mixed hF [14,15,16,17,18,19,20,7] [_,_,_,_,_,_,_,kn w22 [.bool false,.slice none 0 0,.slice none 0 0]] [7] ⟨fun _ _ ⟨g,e,_,o⟩=>⟨g,e,o.lt⟩,trivial⟩ (by decide+kernel) rfl rfl rfl ⟨rb st ty_Rat 3 1 rfl,rb st ty_Rat 0 0 rfl,ck st k223 rfl fun _ s=>qOf (hT.below s.bel) (s.f 0 rfl),ck st k58 rfl fun _ s _ x16=>qMul (s.f 1 rfl) x16,rb st ty_Rat 0 0 rfl,ck st k239 rfl fun _ s=>qCosine (hT.below s.bel) (s.f 0 rfl),ck st k75 rfl fun _ s _ x17 _ x19=>qDiv x17 x19,ra ty_Rat rfl rfl,trivial⟩ ?_
 intro a w23 hF bb hall hne
 have s0:=st
 replace st:=st.to bb
 obtain⟨vv24,hF,st⟩:=rS hall hF st 6 rfl rfl Rl.cl
 obtain⟨b26,ad26,n26,c26,ae26,m26,d26,rfl⟩:=Rq.form (st.f 0 rfl).1
 obtain⟨_,e7,g7,rfl,ge7,o7⟩:=sS hall 7 7 rfl rfl
 replace st:=st.push o7.blk (Nat.le_trans s0.bel.size ge7) (s0.ne ge7)
 clear o7
 replace hF:=hF.add e7
 clear hall bb hne s0
 refine S.sto st hF 0 rfl (hF.at 0 rfl) (hF.at 1 rfl) ty_Rat rfl rfl rfl rfl fun w27 a st hF=>?_
 refine E.nil ?_
 refine wp_seq ?_
 refine E.rg 7 mixed hF [21,22,23,24,25,26,27] [_,_,_,_,_,_,_] (by decide+kernel) rfl rfl rfl ⟨rb st ty_Rat 0 0 rfl,ck st k121 rfl fun _ s=>qOpp (s.f 0 rfl),rb st ty_Rat 5 2 rfl,ck st k225 rfl fun _ s=>qArc (hT.below s.bel) (s.f 2 rfl),ck st k239 rfl fun _ s _ x24=>qCosine (hT.below s.bel) x24,ck st k75 rfl fun _ s _ x22 _ x25=>qDiv x22 x25,ck st k225 rfl fun _ s _ x26=>qArc (hT.below s.bel) x26,trivial⟩ ?_
 intro a w28 hF bb hall
 replace st:=st.to bb
 obtain⟨vv29,hF,st⟩:=rS hall hF st 6 rfl rfl Rl.cl
 obtain⟨b31,ad31,n31,c31,ae31,m31,d31,rfl⟩:=Rq.form (st.f 0 rfl).1
 clear hall bb
 refine S.sto st hF 3 rfl (hF.at 11 rfl) (hF.at 0 rfl) ty_Rat rfl rfl rfl rfl fun w32 a st hF=>?_
 refine E.nil ?_
 refine wp_ret ?_
 refine S.ret Tryz.results206 st hF (hF.at 11 rfl) 3 rfl ty_Rat rfl hF.dfr ?_
 have bel:=st.bel
 exact⟨_,rfl,Rq.castM (st.f 0 rfl).1 (diffQ_eq _ _),bel⟩
theorem recross_daw (v1:Value) (n xa xb xc xd:Int) (w:World) (hT:TabD w) (h1:Rq w v1 (((1:Int):Rat)/((4:Int):Rat))) (hp:PlOk xa xb xc xd) (hn0: -4000000≤n) (hn1:n≤4000000):
 Calls Tryz.prog 164 #[.int .i64 n,.agg #[.int .i64 xa,.int .i64 xb,.int .i64 xc,.int .i64 xd],v1,.int .i64 1] w (RqPost w (dawV n xa xb xc xd)):=by
 have st:=St.start w
 refine E.enter (nt:=56) (L:=[(0,.int .i64 n),(1,.agg #[.int .i64 xa,.int .i64 xb,.int .i64 xc,.int .i64 xd]),(2,v1),(3,.int .i64 1)]) Tryz.func164 rfl rfl rfl (args_cons (i:=0) rfl (args_cons (i:=1) rfl (args_cons (i:=2) rfl (args_cons (i:=3) rfl args_nil)))) ?_
 intro a hF
 refine wp_seq ?_
 refine E.seq ?_
 refine S.box st hF (hF.at 1 rfl) rfl rfl fun g5 w1 a st hF=>?_
 obtain⟨b3,ad3,n3,c3,ae3,m3,d3,rfl⟩:=Rq.form h1
 refine S.box st hF (hF.at 3 rfl) rfl rfl fun g6 w2 a st hF=>?_
 refine S.alloc st hF ty_Rat rfl rfl fun g8 w4 a st hF=>?_
 refine E.nil ?_
 refine wp_seq ?_
 refine E.seq ?_
 refine E.opv hF (r_move (hF.at 3 rfl)) rfl rfl rfl rfl fun a hF=>?_
 refine S.ck st hF (rgc k40 (map1 (hF.at 0 rfl))) (rq_ret (rWhole_any (n) _ (by omega) (by omega)) (rlim_int (limz_64 (by omega) (by omega)) (by omega))) Rl.cl rfl fun vv6 w5 a st hF=>?_
 obtain⟨b8,ad8,n8,c8,ae8,m8,d8,rfl⟩:=Rq.form (st.f 0 rfl).1
 refine S.new st hF 0 rfl ty_Rat rfl rfl rfl rfl rfl fun g9 w9 a st hF=>?_
 refine E.nil ?_
 refine wp_seq ?_
 refine E.rga 6 mixed hF [17,18,19,20,10,11] [_,_,_,_,kn w9 [.bool false,.slice none 0 0,.slice none 0 0],kn w9 [.bool false,.slice none 0 0,.slice none 0 0]] [4,5] ⟨fun _ _ ⟨g,e,_,o⟩=>⟨g,e,o.lt⟩,⟨fun _ _ ⟨g,e,_,o⟩=>⟨g,e,o.lt⟩,trivial⟩⟩ (by decide+kernel) rfl rfl rfl ⟨rb st ty_Rat 0 0 rfl,ck st k201 rfl fun _ s=>rq_ret (reanomaly_any _ (((n:Int):Rat)) 2 _ (s.f 0 rfl).1 (s.f 0 rfl).2 (by omega)) (mof_lim (s.f 0 rfl).2 pay_lim),rb st ty_Rat 0 0 rfl,ck st k202 rfl fun _ s=>rq_ret (reTropical_any _ (((n:Int):Rat)) 2 _ (hT.below s.bel) (s.f 0 rfl).1 (s.f 0 rfl).2 (by omega)) (trop_lim (s.f 0 rfl).2),ra ty_Rat rfl rfl,ra ty_Rat rfl rfl,trivial⟩ ?_
 intro a w10 hF bb hall hne
 have s0:=st
 replace st:=st.to bb
 obtain⟨vv11,hF,st⟩:=rS hall hF st 1 rfl rfl Rl.cl
 obtain⟨b13,ad13,n13,c13,ae13,m13,d13,rfl⟩:=Rq.form (st.f 0 rfl).1
 obtain⟨vv14,hF,st⟩:=rS hall hF st 3 rfl rfl Rl.cl
 obtain⟨b16,ad16,n16,c16,ae16,m16,d16,rfl⟩:=Rq.form (st.f 0 rfl).1
 obtain⟨_,e10,g10,rfl,ge10,o10⟩:=sS hall 4 10 rfl rfl
 replace st:=st.push o10.blk (Nat.le_trans s0.bel.size ge10) (s0.ne ge10)
 clear o10
 replace hF:=hF.add e10
 obtain⟨_,e11,g11,rfl,ge11,o11⟩:=sS hall 5 11 rfl rfl
 replace st:=st.push o11.blk (Nat.le_trans s0.bel.size ge11) (ne_cons (fun(e:g10=g11)=>hne 4 5 10 11 rfl rfl (by decide) rfl rfl (by rw[e10,e11,e])) (s0.ne ge11))
 clear o11
 replace hF:=hF.add e11
 clear hall bb hne s0
 refine S.sto st hF 1 rfl (hF.at 1 rfl) (hF.at 3 rfl) ty_Rat rfl rfl rfl rfl fun w17 a st hF=>?_
 refine S.sto st hF 0 rfl (hF.at 0 rfl) (hF.at 2 rfl) ty_Rat rfl rfl rfl rfl fun w18 a st hF=>?_
 refine E.nil ?_
 refine wp_seq ?_
 refine E.rga 8 mixed hF [21,22,23,24,25,26,27,12] [_,_,_,_,_,_,_,kn w18 [.bool false,.slice none 0 0,.slice none 0 0]] [7] ⟨fun _ _ ⟨g,e,_,o⟩=>⟨g,e,o.lt⟩,trivial⟩ (by decide+kernel) rfl rfl rfl ⟨ck st k51 rfl fun _ s=>ex_ret (pUj_any _),ck st k203 rfl fun _ s=>rq_ret (pLongitude_any 463 20 45461 600 _ (by decide) (by decide) (by decide) (by decide)) (lim64q (n:=45461) (d:=600) (by decide) (by decide) (by decide) (by decide)),rb st ty_Plc 9 5 rfl,ck st k203 rfl fun _ s=>rq_ret (pLongitude_any xa xb xc xd _ (by have:=hp.c0;have:=hp.c1;have:=hp.b1;have:=hp.d1;omega) (by have:=hp.c0;have:=hp.c1;have:=hp.b1;have:=hp.d1;omega) (by have:=hp.d0;have:=hp.d1;have:=hp.b1;have:=hp.d1;omega) (by have:=hp.d0;have:=hp.d1;have:=hp.b1;have:=hp.d1;omega)) (lim64q (n:=xc) (d:=xd) (by have:=hp.c0;have:=hp.c1;have:=hp.b1;have:=hp.d1;omega) (by have:=hp.c0;have:=hp.c1;have:=hp.b1;have:=hp.d1;omega) (by have:=hp.d0;have:=hp.d1;have:=hp.b1;have:=hp.d1;omega) (by have:=hp.d0;have:=hp.d1;have:=hp.b1;have:=hp.d1;omega)),ck st k57 rfl fun _ s _ x22 _ x24=>qSub x22 x24,ck st k35 rfl fun _ s=>rq_ret (rOf2_any (1) (360) _ (by decide) (by decide) (by decide) (by decide)) (RLim.up (rlim_mk2 (limz_64 (by decide) (by decide)) (limz_64 (by decide) (by decide))) 2 (by decide)),ck st k58 rfl fun _ s _ x25 _ x26=>qMul x25 x26,ra ty_Rat rfl rfl,trivial⟩ ?_
 intro a w19 hF bb hall hne
 have s0:=st
 replace st:=st.to bb
 obtain⟨vv20,hF,st⟩:=rS hall hF st 6 rfl rfl Rl.cl
 obtain⟨b22,ad22,n22,c22,ae22,m22,d22,rfl⟩:=Rq.form (st.f 0 rfl).1
 obtain⟨_,e12,g12,rfl,ge12,o12⟩:=sS hall 7 12 rfl rfl
 replace st:=st.push o12.blk (Nat.le_trans s0.bel.size ge12) (s0.ne ge12)
 clear o12
 replace hF:=hF.add e12
 clear hall bb hne s0
 refine S.sto st hF 0 rfl (hF.at 0 rfl) (hF.at 1 rfl) ty_Rat rfl rfl rfl rfl fun w23 a st hF=>?_
 refine E.nil ?_
 refine wp_seq ?_
 refine E.rga 15 mixed hF [28,29,30,31,32,33,34,35,36,37,38,39,40,41,13] [_,_,_,_,_,_,_,_,_,_,_,_,_,_,kn w23 [.bool false,.slice none 0 0,.slice none 0 0]] [14] ⟨fun _ _ ⟨g,e,_,o⟩=>⟨g,e,o.lt⟩,trivial⟩ (by decide+kernel) rfl rfl rfl ⟨rb st ty_Rat 10 5 rfl,rb st ty_Rat 3 2 rfl,ck st k204 rfl fun _ s=>rq_ret (remotion_any _ (mof (((n:Int):Rat)) pay) 9 _ (hT.below s.bel) (s.f 2 rfl).1 (s.f 2 rfl).2 (by omega)) (motQ_lim (s.f 2 rfl).2),ck st k58 rfl fun _ s _ x30=>qMul ⟨(h1.below s.bel),(lim64q (n:=1) (d:=4) (by decide) (by decide) (by decide) (by decide))⟩ x30,rb st ty_Rat 2 1 rfl,ck st k205 rfl fun _ s=>rq_ret (rerising_any _ (tropV (((n:Int):Rat))) 190 _ (s.f 1 rfl).1 (s.f 1 rfl).2 (by omega) (rmod_low c360_pos) (rmod_high c360_pos)) (risQ_lim _),ck st k58 rfl fun _ s _ x31 _ x33=>qMul x31 x33,rb st ty_Rat 2 1 rfl,rb st ty_Plc 11 6 rfl,ck st k206 rfl fun _ s=>rq_ret (redifference_any _ (tropV (((n:Int):Rat))) xa xb xc xd 190 _ (hT.below s.bel) (s.f 1 rfl).1 (s.f 1 rfl).2 (by omega) (by have:=hp.a0;have:=hp.a1;have:=hp.b1;have:=hp.d1;omega) (by have:=hp.a0;have:=hp.a1;have:=hp.b1;have:=hp.d1;omega) (by have:=hp.b0;have:=hp.b1;have:=hp.b1;have:=hp.d1;omega) (by have:=hp.b0;have:=hp.b1;have:=hp.b1;have:=hp.d1;omega)) (diffQ_lim (s.f 1 rfl).2 (lim64q (n:=xa) (d:=xb) (by have:=hp.a0;have:=hp.a1;have:=hp.b1;have:=hp.d1;omega) (by have:=hp.a0;have:=hp.a1;have:=hp.b1;have:=hp.d1;omega) (by have:=hp.b0;have:=hp.b1;have:=hp.b1;have:=hp.d1;omega) (by have:=hp.b0;have:=hp.b1;have:=hp.b1;have:=hp.d1;omega)) (by decide)),rm 15 rfl,ck st k40 rfl fun _ s=>rq_ret (rWhole_any (1) _ (by decide) (by decide)) (rlim_int (limz_64 (by decide) (by decide)) (by omega)),ck st k58 rfl fun _ s _ x37 _ x39=>qMul x37 x39,ck st k56 rfl fun _ s _ x34 _ x40=>qAdd x34 x40,ra ty_Rat rfl rfl,trivial⟩ ?_
 intro a w24 hF bb hall hne
 have s0:=st
 replace st:=st.to bb
 obtain⟨vv25,hF,st⟩:=rS hall hF st 13 rfl rfl Rl.cl
 obtain⟨b27,ad27,n27,c27,ae27,m27,d27,rfl⟩:=Rq.form (st.f 0 rfl).1
 obtain⟨_,e13,g13,rfl,ge13,o13⟩:=sS hall 14 13 rfl rfl
 replace st:=st.push o13.blk (Nat.le_trans s0.bel.size ge13) (s0.ne ge13)
 clear o13
 replace hF:=hF.add e13
 clear hall bb hne s0
 refine S.sto st hF 0 rfl (hF.at 0 rfl) (hF.at 1 rfl) ty_Rat rfl rfl rfl rfl fun w28 a st hF=>?_
 refine E.nil ?_
 refine wp_seq ?_
 refine E.rga 6 mixed hF [42,43,44,45,46,14] [_,_,_,_,_,kn w28 [.bool false,.slice none 0 0,.slice none 0 0]] [5] ⟨fun _ _ ⟨g,e,_,o⟩=>⟨g,e,o.lt⟩,trivial⟩ (by decide+kernel) rfl rfl rfl ⟨ck st k35 rfl fun _ s=>rq_ret (rOf2_any (1577917828) (1582237828) _ (by decide) (by decide) (by decide) (by decide)) (RLim.up (rlim_mk2 (limz_64 (by decide) (by decide)) (limz_64 (by decide) (by decide))) 2 (by decide)),ck st k35 rfl fun _ s=>rq_ret (rOf2_any (1) (360) _ (by decide) (by decide) (by decide) (by decide)) (RLim.up (rlim_mk2 (limz_64 (by decide) (by decide)) (limz_64 (by decide) (by decide))) 2 (by decide)),ck st k58 rfl fun _ s _ x42 _ x43=>qMul x42 x43,rb st ty_Rat 0 0 rfl,ck st k58 rfl fun _ s _ x44=>qMul x44 (s.f 0 rfl),ra ty_Rat rfl rfl,trivial⟩ ?_
 intro a w29 hF bb hall hne
 have s0:=st
 replace st:=st.to bb
 obtain⟨vv30,hF,st⟩:=rS hall hF st 4 rfl rfl Rl.cl
 obtain⟨b32,ad32,n32,c32,ae32,m32,d32,rfl⟩:=Rq.form (st.f 0 rfl).1
 obtain⟨_,e14,g14,rfl,ge14,o14⟩:=sS hall 5 14 rfl rfl
 replace st:=st.push o14.blk (Nat.le_trans s0.bel.size ge14) (s0.ne ge14)
 clear o14
 replace hF:=hF.add e14
 clear hall bb hne s0
 refine S.sto st hF 0 rfl (hF.at 0 rfl) (hF.at 1 rfl) ty_Rat rfl rfl rfl rfl fun w33 a st hF=>?_
 refine E.nil ?_
 refine wp_seq ?_
 refine E.rg 9 mixed hF [47,48,49,50,51,52,53,54,55] [_,_,_,_,_,_,_,.of (fun w v=>QRow w v [((n:Int):Rat),((1:Int):Rat)/((4:Int):Rat),((((45461:Int):Rat)/((600:Int):Rat))-(((xc:Int):Rat)/((xd:Int):Rat)))*(((1:Int):Rat)/((360:Int):Rat)), -(eqnQ (mof (((n:Int):Rat)) pay)),((((1577917828:Int):Rat)/((1582237828:Int):Rat))*(((1:Int):Rat)/((360:Int):Rat)))*((((((1:Int):Rat)/((4:Int):Rat))*(motQ (mof (((n:Int):Rat)) pay)))*(risQ (tropV (((n:Int):Rat)))))+((diffQ (tropV (((n:Int):Rat))) (((xa:Int):Rat)/((xb:Int):Rat)))*(((1:Int):Rat))))]∧RLim (((n:Int):Rat)) (2)∧RLim (((1:Int):Rat)/((4:Int):Rat)) (2)∧RLim (((((45461:Int):Rat)/((600:Int):Rat))-(((xc:Int):Rat)/((xd:Int):Rat)))*(((1:Int):Rat)/((360:Int):Rat))) (7)∧RLim (-(eqnQ (mof (((n:Int):Rat)) pay))) (127)∧RLim (((((1577917828:Int):Rat)/((1582237828:Int):Rat))*(((1:Int):Rat)/((360:Int):Rat)))*((((((1:Int):Rat)/((4:Int):Rat))*(motQ (mof (((n:Int):Rat)) pay)))*(risQ (tropV (((n:Int):Rat)))))+((diffQ (tropV (((n:Int):Rat))) (((xa:Int):Rat)/((xb:Int):Rat)))*(((1:Int):Rat))))) (579)) (fun w w' v h hb=>⟨QRow.mono _ w w' v h.1 hb,h.2⟩),_] (by decide+kernel) rfl rfl rfl ⟨rb st ty_Rat 10 5 rfl,rb st ty_Rat 14 7 rfl,rb st ty_Rat 4 2 rfl,rb st ty_Rat 7 4 rfl,ck st k208 rfl fun _ s=>rq_ret (reequation_any _ (mof (((n:Int):Rat)) pay) 9 _ (hT.below s.bel) (s.f 4 rfl).1 (s.f 4 rfl).2 (by omega)) (eqnQ_lim (s.f 4 rfl).2),ck st k121 rfl fun _ s _ x51=>qOpp x51,rb st ty_Rat 0 0 rfl,(by intro a' w' hF' hb hd;have e47:=sHe hd 0 47 rfl rfl rfl rfl;have e48:=sHe hd 1 48 rfl rfl rfl rfl;have e49:=sHe hd 2 49 rfl rfl rfl rfl;obtain⟨v52_0,e52,h52_1⟩:=sH hd 3 52 rfl rfl rfl rfl;have e53:=sHe hd 4 53 rfl rfl rfl rfl;obtain⟨vq,w2,hr,bb,hq⟩:=bs_rats5 ((st.f 5 rfl).below hb).1 (h1.below (below_to st.bel hb)) ((st.f 2 rfl).below hb).1 h52_1.1 ((st.f 0 rfl).below hb).1;exact if_does (wanted_free rfl) (Does.vals (r_buildSlice (pair5 e47 e48 e49 e52 e53) hr) ⟨⟨hq,((st.f 5 rfl).below hb).2,(lim64q (n:=1) (d:=4) (by decide) (by decide) (by decide) (by decide)),((st.f 2 rfl).below hb).2,h52_1.2,((st.f 0 rfl).below hb).2⟩,bb,(fun h=>absurd h (by decide))⟩)),ck st k207 rfl fun _ s _ x54=>rq_ret (rSum5 _ (((n:Int):Rat)) (((1:Int):Rat)/((4:Int):Rat)) (((((45461:Int):Rat)/((600:Int):Rat))-(((xc:Int):Rat)/((xd:Int):Rat)))*(((1:Int):Rat)/((360:Int):Rat))) (-(eqnQ (mof (((n:Int):Rat)) pay))) (((((1577917828:Int):Rat)/((1582237828:Int):Rat))*(((1:Int):Rat)/((360:Int):Rat)))*((((((1:Int):Rat)/((4:Int):Rat))*(motQ (mof (((n:Int):Rat)) pay)))*(risQ (tropV (((n:Int):Rat)))))+((diffQ (tropV (((n:Int):Rat))) (((xa:Int):Rat)/((xb:Int):Rat)))*(((1:Int):Rat))))) (max (max (max 2 7) 127) 579) _ x54.1 (x54.2.1.up _ (by omega)) (x54.2.2.1.up _ (by omega)) (x54.2.2.2.1.up _ (by omega)) (x54.2.2.2.2.1.up _ (by omega)) (x54.2.2.2.2.2.up _ (by omega)) (by omega)) (rlim_add (rlim_add (rlim_add (rlim_add x54.2.1 x54.2.2.1) x54.2.2.2.1) x54.2.2.2.2.1) x54.2.2.2.2.2),trivial⟩ ?_
 intro a w34 hF bb hall
 replace st:=st.to bb
 obtain⟨vv35,hF,st⟩:=rS hall hF st 8 rfl rfl Rl.cl
 obtain⟨b37,ad37,n37,c37,ae37,m37,d37,rfl⟩:=Rq.form (st.f 0 rfl).1
 clear hall bb
 refine S.sto st hF 6 rfl (hF.at 14 rfl) (hF.at 0 rfl) ty_Rat rfl rfl rfl rfl fun w38 a st hF=>?_
 refine E.nil ?_
 refine wp_ret ?_
 refine S.ret Tryz.results164 st hF (hF.at 14 rfl) 6 rfl ty_Rat rfl hF.dfr ?_
 have bel:=st.bel
 exact⟨_,rfl,Rq.castM (st.f 0 rfl).1 (cross_eq _ _ _ 1 1 _ rfl),bel⟩
theorem recross_dus (v1:Value) (n xa xb xc xd:Int) (w:World) (hT:TabD w) (h1:Rq w v1 (((3:Int):Rat)/((4:Int):Rat))) (hp:PlOk xa xb xc xd) (hn0: -4000000≤n) (hn1:n≤4000000):
 Calls Tryz.prog 164 #[.int .i64 n,.agg #[.int .i64 xa,.int .i64 xb,.int .i64 xc,.int .i64 xd],v1,.int .i64 (-1)] w (RqPost w (dusV n xa xb xc xd)):=by
 have st:=St.start w
 refine E.enter (nt:=56) (L:=[(0,.int .i64 n),(1,.agg #[.int .i64 xa,.int .i64 xb,.int .i64 xc,.int .i64 xd]),(2,v1),(3,.int .i64 (-1))]) Tryz.func164 rfl rfl rfl (args_cons (i:=0) rfl (args_cons (i:=1) rfl (args_cons (i:=2) rfl (args_cons (i:=3) rfl args_nil)))) ?_
 intro a hF
 refine wp_seq ?_
 refine E.seq ?_
 refine S.box st hF (hF.at 1 rfl) rfl rfl fun g5 w1 a st hF=>?_
 obtain⟨b3,ad3,n3,c3,ae3,m3,d3,rfl⟩:=Rq.form h1
 refine S.box st hF (hF.at 3 rfl) rfl rfl fun g6 w2 a st hF=>?_
 refine S.alloc st hF ty_Rat rfl rfl fun g8 w4 a st hF=>?_
 refine E.nil ?_
 refine wp_seq ?_
 refine E.seq ?_
 refine E.opv hF (r_move (hF.at 3 rfl)) rfl rfl rfl rfl fun a hF=>?_
 refine S.ck st hF (rgc k40 (map1 (hF.at 0 rfl))) (rq_ret (rWhole_any (n) _ (by omega) (by omega)) (rlim_int (limz_64 (by omega) (by omega)) (by omega))) Rl.cl rfl fun vv6 w5 a st hF=>?_
 obtain⟨b8,ad8,n8,c8,ae8,m8,d8,rfl⟩:=Rq.form (st.f 0 rfl).1
 refine S.new st hF 0 rfl ty_Rat rfl rfl rfl rfl rfl fun g9 w9 a st hF=>?_
 refine E.nil ?_
 refine wp_seq ?_
 refine E.rga 6 mixed hF [17,18,19,20,10,11] [_,_,_,_,kn w9 [.bool false,.slice none 0 0,.slice none 0 0],kn w9 [.bool false,.slice none 0 0,.slice none 0 0]] [4,5] ⟨fun _ _ ⟨g,e,_,o⟩=>⟨g,e,o.lt⟩,⟨fun _ _ ⟨g,e,_,o⟩=>⟨g,e,o.lt⟩,trivial⟩⟩ (by decide+kernel) rfl rfl rfl ⟨rb st ty_Rat 0 0 rfl,ck st k201 rfl fun _ s=>rq_ret (reanomaly_any _ (((n:Int):Rat)) 2 _ (s.f 0 rfl).1 (s.f 0 rfl).2 (by omega)) (mof_lim (s.f 0 rfl).2 pay_lim),rb st ty_Rat 0 0 rfl,ck st k202 rfl fun _ s=>rq_ret (reTropical_any _ (((n:Int):Rat)) 2 _ (hT.below s.bel) (s.f 0 rfl).1 (s.f 0 rfl).2 (by omega)) (trop_lim (s.f 0 rfl).2),ra ty_Rat rfl rfl,ra ty_Rat rfl rfl,trivial⟩ ?_
 intro a w10 hF bb hall hne
 have s0:=st
 replace st:=st.to bb
 obtain⟨vv11,hF,st⟩:=rS hall hF st 1 rfl rfl Rl.cl
 obtain⟨b13,ad13,n13,c13,ae13,m13,d13,rfl⟩:=Rq.form (st.f 0 rfl).1
 obtain⟨vv14,hF,st⟩:=rS hall hF st 3 rfl rfl Rl.cl
 obtain⟨b16,ad16,n16,c16,ae16,m16,d16,rfl⟩:=Rq.form (st.f 0 rfl).1
 obtain⟨_,e10,g10,rfl,ge10,o10⟩:=sS hall 4 10 rfl rfl
 replace st:=st.push o10.blk (Nat.le_trans s0.bel.size ge10) (s0.ne ge10)
 clear o10
 replace hF:=hF.add e10
 obtain⟨_,e11,g11,rfl,ge11,o11⟩:=sS hall 5 11 rfl rfl
 replace st:=st.push o11.blk (Nat.le_trans s0.bel.size ge11) (ne_cons (fun(e:g10=g11)=>hne 4 5 10 11 rfl rfl (by decide) rfl rfl (by rw[e10,e11,e])) (s0.ne ge11))
 clear o11
 replace hF:=hF.add e11
 clear hall bb hne s0
 refine S.sto st hF 1 rfl (hF.at 1 rfl) (hF.at 3 rfl) ty_Rat rfl rfl rfl rfl fun w17 a st hF=>?_
 refine S.sto st hF 0 rfl (hF.at 0 rfl) (hF.at 2 rfl) ty_Rat rfl rfl rfl rfl fun w18 a st hF=>?_
 refine E.nil ?_
 refine wp_seq ?_
 refine E.rga 8 mixed hF [21,22,23,24,25,26,27,12] [_,_,_,_,_,_,_,kn w18 [.bool false,.slice none 0 0,.slice none 0 0]] [7] ⟨fun _ _ ⟨g,e,_,o⟩=>⟨g,e,o.lt⟩,trivial⟩ (by decide+kernel) rfl rfl rfl ⟨ck st k51 rfl fun _ s=>ex_ret (pUj_any _),ck st k203 rfl fun _ s=>rq_ret (pLongitude_any 463 20 45461 600 _ (by decide) (by decide) (by decide) (by decide)) (lim64q (n:=45461) (d:=600) (by decide) (by decide) (by decide) (by decide)),rb st ty_Plc 9 5 rfl,ck st k203 rfl fun _ s=>rq_ret (pLongitude_any xa xb xc xd _ (by have:=hp.c0;have:=hp.c1;have:=hp.b1;have:=hp.d1;omega) (by have:=hp.c0;have:=hp.c1;have:=hp.b1;have:=hp.d1;omega) (by have:=hp.d0;have:=hp.d1;have:=hp.b1;have:=hp.d1;omega) (by have:=hp.d0;have:=hp.d1;have:=hp.b1;have:=hp.d1;omega)) (lim64q (n:=xc) (d:=xd) (by have:=hp.c0;have:=hp.c1;have:=hp.b1;have:=hp.d1;omega) (by have:=hp.c0;have:=hp.c1;have:=hp.b1;have:=hp.d1;omega) (by have:=hp.d0;have:=hp.d1;have:=hp.b1;have:=hp.d1;omega) (by have:=hp.d0;have:=hp.d1;have:=hp.b1;have:=hp.d1;omega)),ck st k57 rfl fun _ s _ x22 _ x24=>qSub x22 x24,ck st k35 rfl fun _ s=>rq_ret (rOf2_any (1) (360) _ (by decide) (by decide) (by decide) (by decide)) (RLim.up (rlim_mk2 (limz_64 (by decide) (by decide)) (limz_64 (by decide) (by decide))) 2 (by decide)),ck st k58 rfl fun _ s _ x25 _ x26=>qMul x25 x26,ra ty_Rat rfl rfl,trivial⟩ ?_
 intro a w19 hF bb hall hne
 have s0:=st
 replace st:=st.to bb
 obtain⟨vv20,hF,st⟩:=rS hall hF st 6 rfl rfl Rl.cl
 obtain⟨b22,ad22,n22,c22,ae22,m22,d22,rfl⟩:=Rq.form (st.f 0 rfl).1
 obtain⟨_,e12,g12,rfl,ge12,o12⟩:=sS hall 7 12 rfl rfl
 replace st:=st.push o12.blk (Nat.le_trans s0.bel.size ge12) (s0.ne ge12)
 clear o12
 replace hF:=hF.add e12
 clear hall bb hne s0
 refine S.sto st hF 0 rfl (hF.at 0 rfl) (hF.at 1 rfl) ty_Rat rfl rfl rfl rfl fun w23 a st hF=>?_
 refine E.nil ?_
 refine wp_seq ?_
 refine E.rga 15 mixed hF [28,29,30,31,32,33,34,35,36,37,38,39,40,41,13] [_,_,_,_,_,_,_,_,_,_,_,_,_,_,kn w23 [.bool false,.slice none 0 0,.slice none 0 0]] [14] ⟨fun _ _ ⟨g,e,_,o⟩=>⟨g,e,o.lt⟩,trivial⟩ (by decide+kernel) rfl rfl rfl ⟨rb st ty_Rat 10 5 rfl,rb st ty_Rat 3 2 rfl,ck st k204 rfl fun _ s=>rq_ret (remotion_any _ (mof (((n:Int):Rat)) pay) 9 _ (hT.below s.bel) (s.f 2 rfl).1 (s.f 2 rfl).2 (by omega)) (motQ_lim (s.f 2 rfl).2),ck st k58 rfl fun _ s _ x30=>qMul ⟨(h1.below s.bel),(lim64q (n:=3) (d:=4) (by decide) (by decide) (by decide) (by decide))⟩ x30,rb st ty_Rat 2 1 rfl,ck st k205 rfl fun _ s=>rq_ret (rerising_any _ (tropV (((n:Int):Rat))) 190 _ (s.f 1 rfl).1 (s.f 1 rfl).2 (by omega) (rmod_low c360_pos) (rmod_high c360_pos)) (risQ_lim _),ck st k58 rfl fun _ s _ x31 _ x33=>qMul x31 x33,rb st ty_Rat 2 1 rfl,rb st ty_Plc 11 6 rfl,ck st k206 rfl fun _ s=>rq_ret (redifference_any _ (tropV (((n:Int):Rat))) xa xb xc xd 190 _ (hT.below s.bel) (s.f 1 rfl).1 (s.f 1 rfl).2 (by omega) (by have:=hp.a0;have:=hp.a1;have:=hp.b1;have:=hp.d1;omega) (by have:=hp.a0;have:=hp.a1;have:=hp.b1;have:=hp.d1;omega) (by have:=hp.b0;have:=hp.b1;have:=hp.b1;have:=hp.d1;omega) (by have:=hp.b0;have:=hp.b1;have:=hp.b1;have:=hp.d1;omega)) (diffQ_lim (s.f 1 rfl).2 (lim64q (n:=xa) (d:=xb) (by have:=hp.a0;have:=hp.a1;have:=hp.b1;have:=hp.d1;omega) (by have:=hp.a0;have:=hp.a1;have:=hp.b1;have:=hp.d1;omega) (by have:=hp.b0;have:=hp.b1;have:=hp.b1;have:=hp.d1;omega) (by have:=hp.b0;have:=hp.b1;have:=hp.b1;have:=hp.d1;omega)) (by decide)),rm 15 rfl,ck st k40 rfl fun _ s=>rq_ret (rWhole_any (-1) _ (by decide) (by decide)) (rlim_int (limz_64 (by decide) (by decide)) (by omega)),ck st k58 rfl fun _ s _ x37 _ x39=>qMul x37 x39,ck st k56 rfl fun _ s _ x34 _ x40=>qAdd x34 x40,ra ty_Rat rfl rfl,trivial⟩ ?_
 intro a w24 hF bb hall hne
 have s0:=st
 replace st:=st.to bb
 obtain⟨vv25,hF,st⟩:=rS hall hF st 13 rfl rfl Rl.cl
 obtain⟨b27,ad27,n27,c27,ae27,m27,d27,rfl⟩:=Rq.form (st.f 0 rfl).1
 obtain⟨_,e13,g13,rfl,ge13,o13⟩:=sS hall 14 13 rfl rfl
 replace st:=st.push o13.blk (Nat.le_trans s0.bel.size ge13) (s0.ne ge13)
 clear o13
 replace hF:=hF.add e13
 clear hall bb hne s0
 refine S.sto st hF 0 rfl (hF.at 0 rfl) (hF.at 1 rfl) ty_Rat rfl rfl rfl rfl fun w28 a st hF=>?_
 refine E.nil ?_
 refine wp_seq ?_
 refine E.rga 6 mixed hF [42,43,44,45,46,14] [_,_,_,_,_,kn w28 [.bool false,.slice none 0 0,.slice none 0 0]] [5] ⟨fun _ _ ⟨g,e,_,o⟩=>⟨g,e,o.lt⟩,trivial⟩ (by decide+kernel) rfl rfl rfl ⟨ck st k35 rfl fun _ s=>rq_ret (rOf2_any (1577917828) (1582237828) _ (by decide) (by decide) (by decide) (by decide)) (RLim.up (rlim_mk2 (limz_64 (by decide) (by decide)) (limz_64 (by decide) (by decide))) 2 (by decide)),ck st k35 rfl fun _ s=>rq_ret (rOf2_any (1) (360) _ (by decide) (by decide) (by decide) (by decide)) (RLim.up (rlim_mk2 (limz_64 (by decide) (by decide)) (limz_64 (by decide) (by decide))) 2 (by decide)),ck st k58 rfl fun _ s _ x42 _ x43=>qMul x42 x43,rb st ty_Rat 0 0 rfl,ck st k58 rfl fun _ s _ x44=>qMul x44 (s.f 0 rfl),ra ty_Rat rfl rfl,trivial⟩ ?_
 intro a w29 hF bb hall hne
 have s0:=st
 replace st:=st.to bb
 obtain⟨vv30,hF,st⟩:=rS hall hF st 4 rfl rfl Rl.cl
 obtain⟨b32,ad32,n32,c32,ae32,m32,d32,rfl⟩:=Rq.form (st.f 0 rfl).1
 obtain⟨_,e14,g14,rfl,ge14,o14⟩:=sS hall 5 14 rfl rfl
 replace st:=st.push o14.blk (Nat.le_trans s0.bel.size ge14) (s0.ne ge14)
 clear o14
 replace hF:=hF.add e14
 clear hall bb hne s0
 refine S.sto st hF 0 rfl (hF.at 0 rfl) (hF.at 1 rfl) ty_Rat rfl rfl rfl rfl fun w33 a st hF=>?_
 refine E.nil ?_
 refine wp_seq ?_
 refine E.rg 9 mixed hF [47,48,49,50,51,52,53,54,55] [_,_,_,_,_,_,_,.of (fun w v=>QRow w v [((n:Int):Rat),((3:Int):Rat)/((4:Int):Rat),((((45461:Int):Rat)/((600:Int):Rat))-(((xc:Int):Rat)/((xd:Int):Rat)))*(((1:Int):Rat)/((360:Int):Rat)), -(eqnQ (mof (((n:Int):Rat)) pay)),((((1577917828:Int):Rat)/((1582237828:Int):Rat))*(((1:Int):Rat)/((360:Int):Rat)))*((((((3:Int):Rat)/((4:Int):Rat))*(motQ (mof (((n:Int):Rat)) pay)))*(risQ (tropV (((n:Int):Rat)))))+((diffQ (tropV (((n:Int):Rat))) (((xa:Int):Rat)/((xb:Int):Rat)))*(((-1:Int):Rat))))]∧RLim (((n:Int):Rat)) (2)∧RLim (((3:Int):Rat)/((4:Int):Rat)) (2)∧RLim (((((45461:Int):Rat)/((600:Int):Rat))-(((xc:Int):Rat)/((xd:Int):Rat)))*(((1:Int):Rat)/((360:Int):Rat))) (7)∧RLim (-(eqnQ (mof (((n:Int):Rat)) pay))) (127)∧RLim (((((1577917828:Int):Rat)/((1582237828:Int):Rat))*(((1:Int):Rat)/((360:Int):Rat)))*((((((3:Int):Rat)/((4:Int):Rat))*(motQ (mof (((n:Int):Rat)) pay)))*(risQ (tropV (((n:Int):Rat)))))+((diffQ (tropV (((n:Int):Rat))) (((xa:Int):Rat)/((xb:Int):Rat)))*(((-1:Int):Rat))))) (579)) (fun w w' v h hb=>⟨QRow.mono _ w w' v h.1 hb,h.2⟩),_] (by decide+kernel) rfl rfl rfl ⟨rb st ty_Rat 10 5 rfl,rb st ty_Rat 14 7 rfl,rb st ty_Rat 4 2 rfl,rb st ty_Rat 7 4 rfl,ck st k208 rfl fun _ s=>rq_ret (reequation_any _ (mof (((n:Int):Rat)) pay) 9 _ (hT.below s.bel) (s.f 4 rfl).1 (s.f 4 rfl).2 (by omega)) (eqnQ_lim (s.f 4 rfl).2),ck st k121 rfl fun _ s _ x51=>qOpp x51,rb st ty_Rat 0 0 rfl,(by intro a' w' hF' hb hd;have e47:=sHe hd 0 47 rfl rfl rfl rfl;have e48:=sHe hd 1 48 rfl rfl rfl rfl;have e49:=sHe hd 2 49 rfl rfl rfl rfl;obtain⟨v52_0,e52,h52_1⟩:=sH hd 3 52 rfl rfl rfl rfl;have e53:=sHe hd 4 53 rfl rfl rfl rfl;obtain⟨vq,w2,hr,bb,hq⟩:=bs_rats5 ((st.f 5 rfl).below hb).1 (h1.below (below_to st.bel hb)) ((st.f 2 rfl).below hb).1 h52_1.1 ((st.f 0 rfl).below hb).1;exact if_does (wanted_free rfl) (Does.vals (r_buildSlice (pair5 e47 e48 e49 e52 e53) hr) ⟨⟨hq,((st.f 5 rfl).below hb).2,(lim64q (n:=3) (d:=4) (by decide) (by decide) (by decide) (by decide)),((st.f 2 rfl).below hb).2,h52_1.2,((st.f 0 rfl).below hb).2⟩,bb,(fun h=>absurd h (by decide))⟩)),ck st k207 rfl fun _ s _ x54=>rq_ret (rSum5 _ (((n:Int):Rat)) (((3:Int):Rat)/((4:Int):Rat)) (((((45461:Int):Rat)/((600:Int):Rat))-(((xc:Int):Rat)/((xd:Int):Rat)))*(((1:Int):Rat)/((360:Int):Rat))) (-(eqnQ (mof (((n:Int):Rat)) pay))) (((((1577917828:Int):Rat)/((1582237828:Int):Rat))*(((1:Int):Rat)/((360:Int):Rat)))*((((((3:Int):Rat)/((4:Int):Rat))*(motQ (mof (((n:Int):Rat)) pay)))*(risQ (tropV (((n:Int):Rat)))))+((diffQ (tropV (((n:Int):Rat))) (((xa:Int):Rat)/((xb:Int):Rat)))*(((-1:Int):Rat))))) (max (max (max 2 7) 127) 579) _ x54.1 (x54.2.1.up _ (by omega)) (x54.2.2.1.up _ (by omega)) (x54.2.2.2.1.up _ (by omega)) (x54.2.2.2.2.1.up _ (by omega)) (x54.2.2.2.2.2.up _ (by omega)) (by omega)) (rlim_add (rlim_add (rlim_add (rlim_add x54.2.1 x54.2.2.1) x54.2.2.2.1) x54.2.2.2.2.1) x54.2.2.2.2.2),trivial⟩ ?_
 intro a w34 hF bb hall
 replace st:=st.to bb
 obtain⟨vv35,hF,st⟩:=rS hall hF st 8 rfl rfl Rl.cl
 obtain⟨b37,ad37,n37,c37,ae37,m37,d37,rfl⟩:=Rq.form (st.f 0 rfl).1
 clear hall bb
 refine S.sto st hF 6 rfl (hF.at 14 rfl) (hF.at 0 rfl) ty_Rat rfl rfl rfl rfl fun w38 a st hF=>?_
 refine E.nil ?_
 refine wp_ret ?_
 refine S.ret Tryz.results164 st hF (hF.at 14 rfl) 6 rfl ty_Rat rfl hF.dfr ?_
 have bel:=st.bel
 exact⟨_,rfl,Rq.castM (st.f 0 rfl).1 (cross_eq _ _ _ 3 (-1) _ rfl),bel⟩
theorem reDawn_any (n xa xb xc xd:Int) (w:World) (hT:TabD w) (hp:PlOk xa xb xc xd) (hn0: -4000000≤n) (hn1:n≤4000000):
 Calls Tryz.prog 114 #[.int .i64 n,.agg #[.int .i64 xa,.int .i64 xb,.int .i64 xc,.int .i64 xd]] w (RqPost w (dawV n xa xb xc xd)):=by
 have st:=St.start w
 refine E.enter (nt:=9) (L:=[(0,.int .i64 n),(1,.agg #[.int .i64 xa,.int .i64 xb,.int .i64 xc,.int .i64 xd])]) Tryz.func114 rfl rfl rfl (args_cons (i:=0) rfl (args_cons (i:=1) rfl args_nil)) ?_
 intro a hF
 refine wp_seq ?_
 refine E.seq ?_
 refine S.box st hF (hF.at 1 rfl) rfl rfl fun g3 w1 a st hF=>?_
 refine S.alloc st hF ty_Rat rfl rfl fun g4 w2 a st hF=>?_
 refine E.nil ?_
 refine wp_seq ?_
 refine E.rg 4 mixed hF [5,6,7,8] [_,_,_,_] (by decide+kernel) rfl rfl rfl ⟨rm 2 rfl,rb st ty_Plc 1 1 rfl,ck st k35 rfl fun _ s=>rq_ret (rOf2_any (1) (4) _ (by decide) (by decide) (by decide) (by decide)) (RLim.up (rlim_mk2 (limz_64 (by decide) (by decide)) (limz_64 (by decide) (by decide))) 2 (by decide)),ck st k164 rfl fun _ s _ x7=>rq_ret (recross_daw _ n xa xb xc xd _ (hT.below s.bel) x7.1 (by first|assumption|exact⟨by omega,by omega,by omega,by omega,by omega,by omega,by omega,by omega⟩) (by omega) (by omega)) (daw_lim (by first|assumption|exact⟨by omega,by omega,by omega,by omega,by omega,by omega,by omega,by omega⟩) (by omega) (by omega)),trivial⟩ ?_
 intro a w3 hF bb hall
 replace st:=st.to bb
 obtain⟨vv4,hF,st⟩:=rS hall hF st 3 rfl rfl Rl.cl
 obtain⟨b6,ad6,n6,c6,ae6,m6,d6,rfl⟩:=Rq.form (st.f 0 rfl).1
 clear hall bb
 refine S.sto st hF 0 rfl (hF.at 1 rfl) (hF.at 0 rfl) ty_Rat rfl rfl rfl rfl fun w7 a st hF=>?_
 refine E.nil ?_
 refine wp_ret ?_
 refine S.ret Tryz.results114 st hF (hF.at 1 rfl) 0 rfl ty_Rat rfl hF.dfr ?_
 have bel:=st.bel
 exact⟨_,rfl,(st.f 0 rfl).1,bel⟩
theorem reDusk_any (n xa xb xc xd:Int) (w:World) (hT:TabD w) (hp:PlOk xa xb xc xd) (hn0: -4000000≤n) (hn1:n≤4000000):
 Calls Tryz.prog 115 #[.int .i64 n,.agg #[.int .i64 xa,.int .i64 xb,.int .i64 xc,.int .i64 xd]] w (RqPost w (dusV n xa xb xc xd)):=by
 have st:=St.start w
 refine E.enter (nt:=9) (L:=[(0,.int .i64 n),(1,.agg #[.int .i64 xa,.int .i64 xb,.int .i64 xc,.int .i64 xd])]) Tryz.func115 rfl rfl rfl (args_cons (i:=0) rfl (args_cons (i:=1) rfl args_nil)) ?_
 intro a hF
 refine wp_seq ?_
 refine E.seq ?_
 refine S.box st hF (hF.at 1 rfl) rfl rfl fun g3 w1 a st hF=>?_
 refine S.alloc st hF ty_Rat rfl rfl fun g4 w2 a st hF=>?_
 refine E.nil ?_
 refine wp_seq ?_
 refine E.rg 4 mixed hF [5,6,7,8] [_,_,_,_] (by decide+kernel) rfl rfl rfl ⟨rm 2 rfl,rb st ty_Plc 1 1 rfl,ck st k35 rfl fun _ s=>rq_ret (rOf2_any (3) (4) _ (by decide) (by decide) (by decide) (by decide)) (RLim.up (rlim_mk2 (limz_64 (by decide) (by decide)) (limz_64 (by decide) (by decide))) 2 (by decide)),ck st k164 rfl fun _ s _ x7=>rq_ret (recross_dus _ n xa xb xc xd _ (hT.below s.bel) x7.1 (by first|assumption|exact⟨by omega,by omega,by omega,by omega,by omega,by omega,by omega,by omega⟩) (by omega) (by omega)) (dus_lim (by first|assumption|exact⟨by omega,by omega,by omega,by omega,by omega,by omega,by omega,by omega⟩) (by omega) (by omega)),trivial⟩ ?_
 intro a w3 hF bb hall
 replace st:=st.to bb
 obtain⟨vv4,hF,st⟩:=rS hall hF st 3 rfl rfl Rl.cl
 obtain⟨b6,ad6,n6,c6,ae6,m6,d6,rfl⟩:=Rq.form (st.f 0 rfl).1
 clear hall bb
 refine S.sto st hF 0 rfl (hF.at 1 rfl) (hF.at 0 rfl) ty_Rat rfl rfl rfl rfl fun w7 a st hF=>?_
 refine E.nil ?_
 refine wp_ret ?_
 refine S.ret Tryz.results115 st hF (hF.at 1 rfl) 0 rfl ty_Rat rfl hF.dfr ?_
 have bel:=st.bel
 exact⟨_,rfl,(st.f 0 rfl).1,bel⟩
theorem reSunrise_any (n xa xb xc xd:Int) (w:World) (hT:TabD w) (hp:PlOk xa xb xc xd) (hn0: -4000000≤n) (hn1:n≤4000000):
 Calls Tryz.prog 53 #[.int .i64 n,.agg #[.int .i64 xa,.int .i64 xb,.int .i64 xc,.int .i64 xd]] w (RqPost w (grainV (dawV n xa xb xc xd))):=by
 have st:=St.start w
 refine E.enter (nt:=9) (L:=[(0,.int .i64 n),(1,.agg #[.int .i64 xa,.int .i64 xb,.int .i64 xc,.int .i64 xd])]) Tryz.func53 rfl rfl rfl (args_cons (i:=0) rfl (args_cons (i:=1) rfl args_nil)) ?_
 intro a hF
 refine wp_seq ?_
 refine E.seq ?_
 refine S.box st hF (hF.at 1 rfl) rfl rfl fun g3 w1 a st hF=>?_
 refine S.alloc st hF ty_Rat rfl rfl fun g4 w2 a st hF=>?_
 refine E.nil ?_
 refine wp_seq ?_
 refine E.seq ?_
 refine E.opv hF (r_move (hF.at 2 rfl)) rfl rfl rfl rfl fun a hF=>?_
 refine E.opv hF (r_load (hF.at 2 rfl) (ld_all ty_Plc (st.bk 1 rfl) rfl)) rfl rfl rfl rfl fun a hF=>?_
 refine S.ck st hF (rgc k114 (map2 (hF.at 1 rfl) (hF.at 0 rfl))) (rq_ret (reDawn_any n xa xb xc xd _ (hT.below st.bel) (by first|assumption|exact⟨by omega,by omega,by omega,by omega,by omega,by omega,by omega,by omega⟩) (by omega) (by omega)) (daw_lim (by first|assumption|exact⟨by omega,by omega,by omega,by omega,by omega,by omega,by omega,by omega⟩) (by omega) (by omega))) Rl.cl rfl fun vv4 w3 a st hF=>?_
 obtain⟨b6,ad6,n6,c6,ae6,m6,d6,rfl⟩:=Rq.form (st.f 0 rfl).1
 refine S.ck st hF (rgc k55 (map1 (hF.at 0 rfl))) (rq_ret (reGrain_any _ _ 90 _ (st.f 0 rfl).1 (st.f 0 rfl).2 (by omega)) (sunr_lim (by first|assumption|exact⟨by omega,by omega,by omega,by omega,by omega,by omega,by omega,by omega⟩) (by omega) (by omega))) Rl.cl rfl fun vv8 w7 a st hF=>?_
 obtain⟨b10,ad10,n10,c10,ae10,m10,d10,rfl⟩:=Rq.form (st.f 0 rfl).1
 refine S.sto st hF 0 rfl (hF.at 4 rfl) (hF.at 0 rfl) ty_Rat rfl rfl rfl rfl fun w11 a st hF=>?_
 refine E.nil ?_
 refine wp_ret ?_
 refine S.ret Tryz.results53 st hF (hF.at 4 rfl) 0 rfl ty_Rat rfl hF.dfr ?_
 have bel:=st.bel
 exact⟨_,rfl,(st.f 0 rfl).1,bel⟩
theorem reSunset_any (n xa xb xc xd:Int) (w:World) (hT:TabD w) (hp:PlOk xa xb xc xd) (hn0: -4000000≤n) (hn1:n≤4000000):
 Calls Tryz.prog 54 #[.int .i64 n,.agg #[.int .i64 xa,.int .i64 xb,.int .i64 xc,.int .i64 xd]] w (RqPost w (grainV (dusV n xa xb xc xd))):=by
 have st:=St.start w
 refine E.enter (nt:=9) (L:=[(0,.int .i64 n),(1,.agg #[.int .i64 xa,.int .i64 xb,.int .i64 xc,.int .i64 xd])]) Tryz.func54 rfl rfl rfl (args_cons (i:=0) rfl (args_cons (i:=1) rfl args_nil)) ?_
 intro a hF
 refine wp_seq ?_
 refine E.seq ?_
 refine S.box st hF (hF.at 1 rfl) rfl rfl fun g3 w1 a st hF=>?_
 refine S.alloc st hF ty_Rat rfl rfl fun g4 w2 a st hF=>?_
 refine E.nil ?_
 refine wp_seq ?_
 refine E.seq ?_
 refine E.opv hF (r_move (hF.at 2 rfl)) rfl rfl rfl rfl fun a hF=>?_
 refine E.opv hF (r_load (hF.at 2 rfl) (ld_all ty_Plc (st.bk 1 rfl) rfl)) rfl rfl rfl rfl fun a hF=>?_
 refine S.ck st hF (rgc k115 (map2 (hF.at 1 rfl) (hF.at 0 rfl))) (rq_ret (reDusk_any n xa xb xc xd _ (hT.below st.bel) (by first|assumption|exact⟨by omega,by omega,by omega,by omega,by omega,by omega,by omega,by omega⟩) (by omega) (by omega)) (dus_lim (by first|assumption|exact⟨by omega,by omega,by omega,by omega,by omega,by omega,by omega,by omega⟩) (by omega) (by omega))) Rl.cl rfl fun vv4 w3 a st hF=>?_
 obtain⟨b6,ad6,n6,c6,ae6,m6,d6,rfl⟩:=Rq.form (st.f 0 rfl).1
 refine S.ck st hF (rgc k55 (map1 (hF.at 0 rfl))) (rq_ret (reGrain_any _ _ 90 _ (st.f 0 rfl).1 (st.f 0 rfl).2 (by omega)) (suns_lim (by first|assumption|exact⟨by omega,by omega,by omega,by omega,by omega,by omega,by omega,by omega⟩) (by omega) (by omega))) Rl.cl rfl fun vv8 w7 a st hF=>?_
 obtain⟨b10,ad10,n10,c10,ae10,m10,d10,rfl⟩:=Rq.form (st.f 0 rfl).1
 refine S.sto st hF 0 rfl (hF.at 4 rfl) (hF.at 0 rfl) ty_Rat rfl rfl rfl rfl fun w11 a st hF=>?_
 refine E.nil ?_
 refine wp_ret ?_
 refine S.ret Tryz.results54 st hF (hF.at 4 rfl) 0 rfl ty_Rat rfl hF.dfr ?_
 have bel:=st.bel
 exact⟨_,rfl,(st.f 0 rfl).1,bel⟩
end Go.Proofs.YtnljadejcfgmaaaGreatDoor
