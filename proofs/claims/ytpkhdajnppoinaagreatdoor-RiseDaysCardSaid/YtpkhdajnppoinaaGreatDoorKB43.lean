import Derived.Test.YtpkhdajnppoinaaGreatDoorKB32
import Derived.Test.YtpkhdajnppoinaaGreatDoorKB34
import Derived.Test.YtpkhdajnppoinaaGreatDoorKB35
import Derived.Test.YtpkhdajnppoinaaGreatDoorKB40
namespace Go.Proofs.YtpkhdajnppoinaaGreatDoor
open Go.RowKit
set_option maxRecDepth 100000
set_option linter.unusedVariables false
set_option maxHeartbeats 8000000
theorem bs_rats5 {w:World} {v1 v2 v3 v4 v5:Value} {q1 q2 q3 q4 q5:Rat} (h1:Rq w v1 q1) (h2:Rq w v2 q2) (h3:Rq w v3 q3) (h4:Rq w v4 q4) (h5:Rq w v5 q5):
 ∃v w',(Instr.buildSlice 103 5 #[(0,v1),(1,v2),(2,v3),(3,v4),(4,v5)]).run Tryz.prog w= .ok v w'∧Below w.heap.size w w'∧QRow w' v [q1,q2,q3,q4,q5]:=by
 obtain⟨b1,ad1,n1,c1,ae1,m1,d1,rfl, -, -⟩:=h1.shape
 obtain⟨b2,ad2,n2,c2,ae2,m2,d2,rfl, -, -⟩:=h2.shape
 obtain⟨b3,ad3,n3,c3,ae3,m3,d3,rfl, -, -⟩:=h3.shape
 obtain⟨b4,ad4,n4,c4,ae4,m4,d4,rfl, -, -⟩:=h4.shape
 obtain⟨b5,ad5,n5,c5,ae5,m5,d5,rfl, -, -⟩:=h5.shape
 have ho:=own_new (w:=w) (cs:=[.bool b1,.slice ad1 n1 c1,.slice ae1 m1 d1,.bool b2,.slice ad2 n2 c2,.slice ae2 m2 d2,.bool b3,.slice ad3 n3 c3,.slice ae3 m3 d3,.bool b4,.slice ad4 n4 c4,.slice ae4 m4 d4,.bool b5,.slice ad5 n5 c5,.slice ae5 m5 d5]) 32 (niB (niS (niS (niB (niS (niS (niB (niS (niS (niB (niS (niS (niB (niS (niS ni0)))))))))))))))
 refine⟨.slice (some ⟨w.heap.size,0,none⟩) 5 5,w.alloc (.cells #[.bool b1,.slice ad1 n1 c1,.slice ae1 m1 d1,.bool b2,.slice ad2 n2 c2,.slice ae2 m2 d2,.bool b3,.slice ad3 n3 c3,.slice ae3 m3 d3,.bool b4,.slice ad4 n4 c4,.slice ae4 m4 d4,.bool b5,.slice ad5 n5 c5,.slice ae5 m5 d5] 32),?_,ho.2,_,_,rfl,ho.1,?_⟩
 ·have hs:=size_run (P:=Tryz.prog) sz_Rat w
  have hu:=run_underlying (P:=Tryz.prog) Tryz.underlying103 w
  have hz:=zero_run (P:=Tryz.prog) ze_Rat w
  simp[Instr.buildSlice,go_sem,hs,hu,Instr.fill,Value.cells,newRow]
 ·intro i hi
  have hi':i<5:=hi
  match i,hi' with
  |0,_=>exact⟨b1,ad1,n1,c1,ae1,m1,d1,rfl,h1.below ho.2⟩
  |1,_=>exact⟨b2,ad2,n2,c2,ae2,m2,d2,rfl,h2.below ho.2⟩
  |2,_=>exact⟨b3,ad3,n3,c3,ae3,m3,d3,rfl,h3.below ho.2⟩
  |3,_=>exact⟨b4,ad4,n4,c4,ae4,m4,d4,rfl,h4.below ho.2⟩
  |4,_=>exact⟨b5,ad5,n5,c5,ae5,m5,d5,rfl,h5.below ho.2⟩
theorem qs5 (q1 q2 q3 q4 q5:Rat):qsum [q1,q2,q3,q4,q5] 5=0+q1+q2+q3+q4+q5:=rfl
theorem rSum5 (v:Value) (q1 q2 q3 q4 q5:Rat) (k:Nat) (w:World) (h:QRow w v [q1,q2,q3,q4,q5]) (l1:RLim q1 k) (l2:RLim q2 k) (l3:RLim q3 k) (l4:RLim q4 k) (l5:RLim q5 k) (hk:k≤10000):Calls Tryz.prog 50 #[v] w (RqPost w (q1+q2+q3+q4+q5)):=by
 have e0:q1+q2+q3+q4+q5=qsum [q1,q2,q3,q4,q5] 5:=by rw[qs5,Rat.zero_add]
 rw[e0]
 have hp:=l1.pos
 refine rSum_any v [q1,q2,q3,q4,q5] (5*k+4) w h ?_ ?_ (by omega) (by simp)
 ·intro i hi
  have hi':i<6:=Nat.lt_succ_of_le hi
  match i,hi' with
  |0,_=>exact rlim_zero (by omega)
  |1,_=>show RLim (0+q1) _;rw[Rat.zero_add];exact l1.up _ (by omega)
  |2,_=>show RLim (0+q1+q2) _;rw[Rat.zero_add];exact(rlim_add l1 l2).up _ (by omega)
  |3,_=>show RLim (0+q1+q2+q3) _;rw[Rat.zero_add];exact(rlim_add (rlim_add l1 l2) l3).up _ (by omega)
  |4,_=>show RLim (0+q1+q2+q3+q4) _;rw[Rat.zero_add];exact(rlim_add (rlim_add (rlim_add l1 l2) l3) l4).up _ (by omega)
  |5,_=>show RLim (0+q1+q2+q3+q4+q5) _;rw[Rat.zero_add];exact(rlim_add (rlim_add (rlim_add (rlim_add l1 l2) l3) l4) l5).up _ (by omega)
 ·intro i hi
  have hi':i<5:=hi
  match i,hi' with
  |0,_=>exact l1.up _ (by omega)
  |1,_=>exact l2.up _ (by omega)
  |2,_=>exact l3.up _ (by omega)
  |3,_=>exact l4.up _ (by omega)
  |4,_=>exact l5.up _ (by omega)
theorem en27:(Tryz.f27.name == "runtime.NumGoroutine")=false∧Tryz.f27.body.isNone=false:=⟨by decide+kernel,by kernel_rfl⟩
theorem en14:(Tryz.f14.name == "runtime.NumGoroutine")=false∧Tryz.f14.body.isNone=false:=⟨by decide+kernel,by kernel_rfl⟩
theorem en16:(Tryz.f16.name == "runtime.NumGoroutine")=false∧Tryz.f16.body.isNone=false:=⟨by decide+kernel,by kernel_rfl⟩
theorem en79:(Tryz.f79.name == "runtime.NumGoroutine")=false∧Tryz.f79.body.isNone=false:=⟨by decide+kernel,by kernel_rfl⟩
theorem en134:(Tryz.f134.name == "runtime.NumGoroutine")=false∧Tryz.f134.body.isNone=false:=⟨by decide+kernel,by kernel_rfl⟩
theorem en78:(Tryz.f78.name == "runtime.NumGoroutine")=false∧Tryz.f78.body.isNone=false:=⟨by decide+kernel,by kernel_rfl⟩
theorem en18:(Tryz.f18.name == "runtime.NumGoroutine")=false∧Tryz.f18.body.isNone=false:=⟨by decide+kernel,by kernel_rfl⟩
theorem en88:(Tryz.f88.name == "runtime.NumGoroutine")=false∧Tryz.f88.body.isNone=false:=⟨by decide+kernel,by kernel_rfl⟩
theorem en22:(Tryz.f22.name == "runtime.NumGoroutine")=false∧Tryz.f22.body.isNone=false:=⟨by decide+kernel,by kernel_rfl⟩
theorem en86:(Tryz.f86.name == "runtime.NumGoroutine")=false∧Tryz.f86.body.isNone=false:=⟨by decide+kernel,by kernel_rfl⟩
theorem en20:(Tryz.f20.name == "runtime.NumGoroutine")=false∧Tryz.f20.body.isNone=false:=⟨by decide+kernel,by kernel_rfl⟩
theorem en89:(Tryz.f89.name == "runtime.NumGoroutine")=false∧Tryz.f89.body.isNone=false:=⟨by decide+kernel,by kernel_rfl⟩
theorem en24:(Tryz.f24.name == "runtime.NumGoroutine")=false∧Tryz.f24.body.isNone=false:=⟨by decide+kernel,by kernel_rfl⟩
theorem en99:(Tryz.f99.name == "runtime.NumGoroutine")=false∧Tryz.f99.body.isNone=false:=⟨by decide+kernel,by kernel_rfl⟩
theorem en32:(Tryz.f32.name == "runtime.NumGoroutine")=false∧Tryz.f32.body.isNone=false:=⟨by decide+kernel,by kernel_rfl⟩
theorem en33:(Tryz.f33.name == "runtime.NumGoroutine")=false∧Tryz.f33.body.isNone=false:=⟨by decide+kernel,by kernel_rfl⟩
theorem en34:(Tryz.f34.name == "runtime.NumGoroutine")=false∧Tryz.f34.body.isNone=false:=⟨by decide+kernel,by kernel_rfl⟩
theorem en35:(Tryz.f35.name == "runtime.NumGoroutine")=false∧Tryz.f35.body.isNone=false:=⟨by decide+kernel,by kernel_rfl⟩
theorem en9:(Tryz.f9.name == "runtime.NumGoroutine")=false∧Tryz.f9.body.isNone=false:=⟨by decide+kernel,by kernel_rfl⟩
theorem reGrain_any (v1:Value) (qt:Rat) (k:Nat) (w:World) (h1:Rq w v1 qt) (hl:RLim qt k) (hk:k≤2000):
 Calls Tryz.prog 27 #[v1] w (RqPost w (grainV qt)):=by
 have st:=St.start w
 refine E.enter (nt:=10) (L:=[(0,v1)]) Tryz.func27 rfl rfl rfl (args_cons (i:=0) rfl args_nil) ?_
 intro a hF
 refine wp_seq ?_
 refine E.seq ?_
 obtain⟨b2,ad2,n2,c2,ae2,m2,d2,rfl⟩:=Rq.form h1
 refine S.box st hF (hF.at 0 rfl) rfl rfl fun g1 w1 a st hF=>?_
 refine S.alloc st hF ty_Rat rfl rfl fun g2 w3 a st hF=>?_
 refine E.nil ?_
 refine wp_seq ?_
 refine E.drawn 7 mixed hF [3,4,5,6,7,8,9] [(fun _ v=>v= .agg #[.bool b2,.slice ad2 n2 c2,.slice ae2 m2 d2]),(fun w v=>Rq w v (((1048576:Int):Rat))),(fun w v=>Rq w v ((qt)*(((1048576:Int):Rat)))),(fun w v=>Wc w v (Rat.floor ((qt)*(((1048576:Int):Rat))))),(fun w v=>Rq w v (((Rat.floor ((qt)*(((1048576:Int):Rat))):Int):Rat))),(fun w v=>Rq w v (((1:Int):Rat)/((1048576:Int):Rat))),(fun w v=>Rq w v ((((Rat.floor ((qt)*(((1048576:Int):Rat))):Int):Rat))*(((1:Int):Rat)/((1048576:Int):Rat))))] [] (by decide+kernel) (by decide+kernel) rfl rfl rfl ⟨(Mb.eq _),(fun _ _ _ h hb=>h.below hb),(fun _ _ _ h hb=>h.below hb),(fun _ _ _ h hb=>h.below hb),(fun _ _ _ h hb=>h.below hb),(fun _ _ _ h hb=>h.below hb),(fun _ _ _ h hb=>h.below hb),trivial⟩ trivial ⟨?_,?_,?_,?_,?_,?_,?_,trivial⟩ ?_
 ·intro a' w' hF' hb hd
  exact dv0 (r_load (hF'.at 1 rfl) (ld_all ty_Rat ((st.bk 1 rfl).below hb) rfl)) rfl rfl rfl
 ·intro a' w' hF' hb hd
  exact dc0 (r_call Tryz.func41 en41.1 en41.2 (map1 ev_c)) (rWhole_any (1048576) _ (by decide) (by decide)) rfl rfl
 ·intro a' w' hF' hb hd
  have e3:=sHe hd 0 3 rfl rfl rfl rfl
  obtain⟨v4_0,e4,h4_1⟩:=sH hd 1 4 rfl rfl rfl rfl
  exact dc0 (r_call Tryz.func52 en52.1 en52.2 (map2 e3 e4)) (rMul_any _ _ (qt) _ (max k 2) _ (h1.below (below_to st.bel hb)) h4_1 (hl.up _ (by omega)) ((rlim_int (limz_64 (by decide) (by decide)) (by omega)).up _ (by omega)) (by omega)) rfl rfl
 ·intro a' w' hF' hb hd
  obtain⟨v5_0,e5,h5_1⟩:=sH hd 0 5 rfl rfl rfl rfl
  exact dc0 (r_call Tryz.func95 en95.1 en95.2 (map1 e5)) (cFloor_any _ _ (k+2) _ h5_1 (rlim_mul hl (rlim_int (limz_64 (by decide) (by decide)) (by omega))) (by omega)) rfl rfl
 ·intro a' w' hF' hb hd
  obtain⟨v6_0,e6,h6_1⟩:=sH hd 0 6 rfl rfl rfl rfl
  exact dc0 (r_call Tryz.func94 en94.1 en94.2 (map1 e6)) (cOf_any _ (Rat.floor ((qt)*(((1048576:Int):Rat)))) _ (Wc.wz h6_1)) rfl rfl
 ·intro a' w' hF' hb hd
  exact dc0 (r_call Tryz.func38 en38.1 en38.2 (map2 ev_c ev_c)) (rOf2_any (1) (1048576) _ (by decide) (by decide) (by decide) (by decide)) rfl rfl
 ·intro a' w' hF' hb hd
  obtain⟨v7_0,e7,h7_1⟩:=sH hd 0 7 rfl rfl rfl rfl
  obtain⟨v8_0,e8,h8_1⟩:=sH hd 1 8 rfl rfl rfl rfl
  exact dc0 (r_call Tryz.func52 en52.1 en52.2 (map2 e7 e8)) (rMul_any _ _ _ _ (max (((k+2)+1)+1) 2) _ h7_1 h8_1 ((rlim_int (Lim.up (fl_lim (rlim_mul hl (rlim_int (limz_64 (by decide) (by decide)) (by omega)))) (((k+2)+1)+1) (by omega)) (by omega)).up _ (by omega)) ((RLim.up (rlim_mk2 (limz_64 (by decide) (by decide)) (limz_64 (by decide) (by decide))) 2 (by decide)).up _ (by omega)) (by omega)) rfl rfl
 intro a w4 hF bb hall hne
 replace st:=st.to bb
 obtain⟨vv5,e9,hh6⟩:=sS hall 6 9 rfl rfl
 replace st:=st.add hh6 (Rq.cl _)
 clear hh6
 clear hall hne bb
 obtain⟨b7,ad7,n7,c7,ae7,m7,d7,rfl⟩:=Rq.form (st.f 0 rfl)
 replace hF:=hF.add e9
 clear e9
 refine S.sto st hF 0 rfl (hF.at 1 rfl) (hF.at 0 rfl) ty_Rat rfl rfl rfl rfl fun w8 a st hF=>?_
 refine E.nil ?_
 refine wp_ret ?_
 refine S.ret Tryz.results27 st hF (hF.at 1 rfl) 0 rfl ty_Rat rfl hF.dfr ?_
 have bel:=st.bel
 exact⟨_,rfl,(st.f 0 rfl),bel⟩
theorem rePrecession_any (v1:Value) (qt:Rat) (k:Nat) (w:World) (h1:Rq w v1 qt) (hl:RLim qt k) (hk:k≤20):
 Calls Tryz.prog 14 #[v1] w (RqPost w (precV qt)):=by
 have st:=St.start w
 refine E.enter (nt:=22) (L:=[(0,v1)]) Tryz.func14 rfl rfl rfl (args_cons (i:=0) rfl args_nil) ?_
 intro a hF
 refine wp_seq ?_
 refine E.seq ?_
 obtain⟨b2,ad2,n2,c2,ae2,m2,d2,rfl⟩:=Rq.form h1
 refine S.box st hF (hF.at 0 rfl) rfl rfl fun g1 w1 a st hF=>?_
 refine S.alloc st hF ty_Rat rfl rfl fun g2 w3 a st hF=>?_
 refine E.nil ?_
 refine wp_seq ?_
 refine E.drawn 6 mixed hF [5,6,7,8,9,3] [(fun _ v=>v= .agg #[.bool b2,.slice ad2 n2 c2,.slice ae2 m2 d2]),(fun w v=>Rq w v ((((-1132959):Int):Rat))),(fun w v=>Rq w v ((qt)-((((-1132959):Int):Rat)))),(fun w v=>Rq w v (((600:Int):Rat)/((1577917828:Int):Rat))),(fun w v=>Rq w v (((qt)-((((-1132959):Int):Rat)))*(((600:Int):Rat)/((1577917828:Int):Rat)))),(fun w v=>∃g,v= .pointer (some ⟨g,0,none⟩)∧w3.heap.size≤g∧Own w g [.bool false,.slice none 0 0,.slice none 0 0])] [5] (by decide+kernel) (by decide+kernel) rfl rfl rfl ⟨(Mb.eq _),(fun _ _ _ h hb=>h.below hb),(fun _ _ _ h hb=>h.below hb),(fun _ _ _ h hb=>h.below hb),(fun _ _ _ h hb=>h.below hb),(fun _ _ _ ⟨g,e,l,o⟩ hb=>⟨g,e,l,o.below hb⟩),trivial⟩ ⟨fun _ _ ⟨g,e,_,o⟩=>⟨g,e,o.lt⟩,trivial⟩ ⟨?_,?_,?_,?_,?_,?_,trivial⟩ ?_
 ·intro a' w' hF' hb hd
  exact dv0 (r_load (hF'.at 1 rfl) (ld_all ty_Rat ((st.bk 1 rfl).below hb) rfl)) rfl rfl rfl
 ·intro a' w' hF' hb hd
  exact dc0 (r_call Tryz.func41 en41.1 en41.2 (map1 ev_c)) (rWhole_any ((-1132959)) _ (by decide) (by decide)) rfl rfl
 ·intro a' w' hF' hb hd
  have e5:=sHe hd 0 5 rfl rfl rfl rfl
  obtain⟨v6_0,e6,h6_1⟩:=sH hd 1 6 rfl rfl rfl rfl
  exact dc0 (r_call Tryz.func36 en36.1 en36.2 (map2 e5 e6)) (rSub_any _ _ (qt) _ (max k 2) _ (h1.below (below_to st.bel hb)) h6_1 (hl.up _ (by omega)) ((rlim_int (limz_64 (by decide) (by decide)) (by omega)).up _ (by omega)) (by omega)) rfl rfl
 ·intro a' w' hF' hb hd
  exact dc0 (r_call Tryz.func38 en38.1 en38.2 (map2 ev_c ev_c)) (rOf2_any (600) (1577917828) _ (by decide) (by decide) (by decide) (by decide)) rfl rfl
 ·intro a' w' hF' hb hd
  obtain⟨v7_0,e7,h7_1⟩:=sH hd 0 7 rfl rfl rfl rfl
  obtain⟨v8_0,e8,h8_1⟩:=sH hd 1 8 rfl rfl rfl rfl
  exact dc0 (r_call Tryz.func52 en52.1 en52.2 (map2 e7 e8)) (rMul_any _ _ _ _ (max (k+2+1) 2) _ h7_1 h8_1 ((rlim_sub hl (rlim_int (limz_64 (by decide) (by decide)) (by omega))).up _ (by omega)) ((RLim.up (rlim_mk2 (limz_64 (by decide) (by decide)) (limz_64 (by decide) (by decide))) 2 (by decide)).up _ (by omega)) (by omega)) rfl rfl
 ·intro a' w' hF' hb hd
  exact da0 ty_Rat rfl hb.size rfl
 intro a w4 hF bb hall hne
 have s0:=st
 replace st:=st.to bb
 obtain⟨vv5,e9,hh6⟩:=sS hall 4 9 rfl rfl
 replace st:=st.add hh6 (Rq.cl _)
 clear hh6
 obtain⟨_,e3,g3,rfl,ge3,o3⟩:=sS hall 5 3 rfl rfl
 replace st:=st.push o3.blk (Nat.le_trans s0.bel.size ge3) (s0.ne ge3)
 clear o3
 clear hall hne bb s0
 obtain⟨b7,ad7,n7,c7,ae7,m7,d7,rfl⟩:=Rq.form (st.f 0 rfl)
 replace hF:=hF.add e9
 clear e9
 replace hF:=hF.add e3
 clear e3
 refine S.sto st hF 0 rfl (hF.at 0 rfl) (hF.at 1 rfl) ty_Rat rfl rfl rfl rfl fun w8 a st hF=>?_
 refine E.nil ?_
 refine wp_seq ?_
 refine E.drawn 7 mixed hF [10,11,12,13,14,15,4] [(fun _ v=>v= .agg #[.bool b7,.slice ad7 n7 c7,.slice ae7 m7 d7]),(fun w v=>Rq w v (((1:Int):Rat)/((4:Int):Rat))),(fun w v=>Rq w v ((((qt)-((((-1132959):Int):Rat)))*(((600:Int):Rat)/((1577917828:Int):Rat)))-(((1:Int):Rat)/((4:Int):Rat)))),(fun w v=>Rq w v ((((-1):Int):Rat)/((2:Int):Rat))),(fun w v=>Rq w v (((1:Int):Rat)/((2:Int):Rat))),(fun w v=>Rq w v (rinto ((((qt)-((((-1132959):Int):Rat)))*(((600:Int):Rat)/((1577917828:Int):Rat)))-(((1:Int):Rat)/((4:Int):Rat))) ((((-1):Int):Rat)/((2:Int):Rat)) (((1:Int):Rat)/((2:Int):Rat)))),(fun w v=>∃g,v= .pointer (some ⟨g,0,none⟩)∧w8.heap.size≤g∧Own w g [.bool false,.slice none 0 0,.slice none 0 0])] [6] (by decide+kernel) (by decide+kernel) rfl rfl rfl ⟨(Mb.eq _),(fun _ _ _ h hb=>h.below hb),(fun _ _ _ h hb=>h.below hb),(fun _ _ _ h hb=>h.below hb),(fun _ _ _ h hb=>h.below hb),(fun _ _ _ h hb=>h.below hb),(fun _ _ _ ⟨g,e,l,o⟩ hb=>⟨g,e,l,o.below hb⟩),trivial⟩ ⟨fun _ _ ⟨g,e,_,o⟩=>⟨g,e,o.lt⟩,trivial⟩ ⟨?_,?_,?_,?_,?_,?_,?_,trivial⟩ ?_
 ·intro a' w' hF' hb hd
  exact dv0 (r_load (hF'.at 0 rfl) (ld_all ty_Rat ((st.bk 0 rfl).below hb) rfl)) rfl rfl rfl
 ·intro a' w' hF' hb hd
  exact dc0 (r_call Tryz.func38 en38.1 en38.2 (map2 ev_c ev_c)) (rOf2_any (1) (4) _ (by decide) (by decide) (by decide) (by decide)) rfl rfl
 ·intro a' w' hF' hb hd
  have e10:=sHe hd 0 10 rfl rfl rfl rfl
  obtain⟨v11_0,e11,h11_1⟩:=sH hd 1 11 rfl rfl rfl rfl
  exact dc0 (r_call Tryz.func36 en36.1 en36.2 (map2 e10 e11)) (rSub_any _ _ _ _ (max ((k+2+1)+2) 2) _ ((st.f 0 rfl).below hb) h11_1 ((rlim_mul (rlim_sub hl (rlim_int (limz_64 (by decide) (by decide)) (by omega))) (RLim.up (rlim_mk2 (limz_64 (by decide) (by decide)) (limz_64 (by decide) (by decide))) 2 (by decide))).up _ (by omega)) ((RLim.up (rlim_mk2 (limz_64 (by decide) (by decide)) (limz_64 (by decide) (by decide))) 2 (by decide)).up _ (by omega)) (by omega)) rfl rfl
 ·intro a' w' hF' hb hd
  exact dc0 (r_call Tryz.func38 en38.1 en38.2 (map2 ev_c ev_c)) (rOf2_any ((-1)) (2) _ (by decide) (by decide) (by decide) (by decide)) rfl rfl
 ·intro a' w' hF' hb hd
  exact dc0 (r_call Tryz.func38 en38.1 en38.2 (map2 ev_c ev_c)) (rOf2_any (1) (2) _ (by decide) (by decide) (by decide) (by decide)) rfl rfl
 ·intro a' w' hF' hb hd
  obtain⟨v12_0,e12,h12_1⟩:=sH hd 0 12 rfl rfl rfl rfl
  obtain⟨v13_0,e13,h13_1⟩:=sH hd 1 13 rfl rfl rfl rfl
  obtain⟨v14_0,e14,h14_1⟩:=sH hd 2 14 rfl rfl rfl rfl
  exact dc0 (r_call Tryz.func69 en69.1 en69.2 (map3 e12 e13 e14)) (cInto_any _ _ _ _ _ _ (((k+2+1)+2)+2+1) 2 2 _ h12_1 h13_1 h14_1 (rlim_sub (rlim_mul (rlim_sub hl (rlim_int (limz_64 (by decide) (by decide)) (by omega))) (RLim.up (rlim_mk2 (limz_64 (by decide) (by decide)) (limz_64 (by decide) (by decide))) 2 (by decide))) (RLim.up (rlim_mk2 (limz_64 (by decide) (by decide)) (limz_64 (by decide) (by decide))) 2 (by decide))) (RLim.up (rlim_mk2 (limz_64 (by decide) (by decide)) (limz_64 (by decide) (by decide))) 2 (by decide)) (RLim.up (rlim_mk2 (limz_64 (by decide) (by decide)) (limz_64 (by decide) (by decide))) 2 (by decide)) (by omega) (by omega) (by omega)) rfl rfl
 ·intro a' w' hF' hb hd
  exact da0 ty_Rat rfl hb.size rfl
 intro a w9 hF bb hall hne
 have s0:=st
 replace st:=st.to bb
 obtain⟨vv10,e15,hh11⟩:=sS hall 5 15 rfl rfl
 replace st:=st.add hh11 (Rq.cl _)
 clear hh11
 obtain⟨_,e4,g4,rfl,ge4,o4⟩:=sS hall 6 4 rfl rfl
 replace st:=st.push o4.blk (Nat.le_trans s0.bel.size ge4) (s0.ne ge4)
 clear o4
 clear hall hne bb s0
 obtain⟨b12,ad12,n12,c12,ae12,m12,d12,rfl⟩:=Rq.form (st.f 0 rfl)
 replace hF:=hF.add e15
 clear e15
 replace hF:=hF.add e4
 clear e4
 refine S.sto st hF 0 rfl (hF.at 0 rfl) (hF.at 1 rfl) ty_Rat rfl rfl rfl rfl fun w13 a st hF=>?_
 refine E.nil ?_
 refine wp_seq ?_
 refine E.drawn 6 mixed hF [16,17,18,19,20,21] [(fun w v=>Rq w v (((27:Int):Rat))),(fun _ v=>v= .agg #[.bool b12,.slice ad12 n12 c12,.slice ae12 m12 d12]),(fun w v=>Rq w v (Rat.abs (rinto ((((qt)-((((-1132959):Int):Rat)))*(((600:Int):Rat)/((1577917828:Int):Rat)))-(((1:Int):Rat)/((4:Int):Rat))) ((((-1):Int):Rat)/((2:Int):Rat)) (((1:Int):Rat)/((2:Int):Rat))))),(fun w v=>Rq w v (((108:Int):Rat))),(fun w v=>Rq w v ((Rat.abs (rinto ((((qt)-((((-1132959):Int):Rat)))*(((600:Int):Rat)/((1577917828:Int):Rat)))-(((1:Int):Rat)/((4:Int):Rat))) ((((-1):Int):Rat)/((2:Int):Rat)) (((1:Int):Rat)/((2:Int):Rat))))*(((108:Int):Rat)))),(fun w v=>Rq w v ((((27:Int):Rat))-((Rat.abs (rinto ((((qt)-((((-1132959):Int):Rat)))*(((600:Int):Rat)/((1577917828:Int):Rat)))-(((1:Int):Rat)/((4:Int):Rat))) ((((-1):Int):Rat)/((2:Int):Rat)) (((1:Int):Rat)/((2:Int):Rat))))*(((108:Int):Rat)))))] [] (by decide+kernel) (by decide+kernel) rfl rfl rfl ⟨(fun _ _ _ h hb=>h.below hb),(Mb.eq _),(fun _ _ _ h hb=>h.below hb),(fun _ _ _ h hb=>h.below hb),(fun _ _ _ h hb=>h.below hb),(fun _ _ _ h hb=>h.below hb),trivial⟩ trivial ⟨?_,?_,?_,?_,?_,?_,trivial⟩ ?_
 ·intro a' w' hF' hb hd
  exact dc0 (r_call Tryz.func41 en41.1 en41.2 (map1 ev_c)) (rWhole_any (27) _ (by decide) (by decide)) rfl rfl
 ·intro a' w' hF' hb hd
  exact dv0 (r_load (hF'.at 0 rfl) (ld_all ty_Rat ((st.bk 0 rfl).below hb) rfl)) rfl rfl rfl
 ·intro a' w' hF' hb hd
  have e17:=sHe hd 0 17 rfl rfl rfl rfl
  exact dc0 (r_call Tryz.func53 en53.1 en53.2 (map1 e17)) (rAbs_any _ _ _ ((st.f 0 rfl).below hb)) rfl rfl
 ·intro a' w' hF' hb hd
  exact dc0 (r_call Tryz.func41 en41.1 en41.2 (map1 ev_c)) (rWhole_any (108) _ (by decide) (by decide)) rfl rfl
 ·intro a' w' hF' hb hd
  obtain⟨v18_0,e18,h18_1⟩:=sH hd 0 18 rfl rfl rfl rfl
  obtain⟨v19_0,e19,h19_1⟩:=sH hd 1 19 rfl rfl rfl rfl
  exact dc0 (r_call Tryz.func52 en52.1 en52.2 (map2 e18 e19)) (rMul_any _ _ _ _ (max (2*(((k+2+1)+2)+2+1)+5*2+2*2+8) 2) _ h18_1 h19_1 ((rlim_abs (rinto_lim (k:=(((k+2+1)+2)+2+1)) (j:=2) (i:=2) (rlim_sub (rlim_mul (rlim_sub hl (rlim_int (limz_64 (by decide) (by decide)) (by omega))) (RLim.up (rlim_mk2 (limz_64 (by decide) (by decide)) (limz_64 (by decide) (by decide))) 2 (by decide))) (RLim.up (rlim_mk2 (limz_64 (by decide) (by decide)) (limz_64 (by decide) (by decide))) 2 (by decide))) (RLim.up (rlim_mk2 (limz_64 (by decide) (by decide)) (limz_64 (by decide) (by decide))) 2 (by decide)) (RLim.up (rlim_mk2 (limz_64 (by decide) (by decide)) (limz_64 (by decide) (by decide))) 2 (by decide)))).up _ (by omega)) ((rlim_int (limz_64 (by decide) (by decide)) (by omega)).up _ (by omega)) (by omega)) rfl rfl
 ·intro a' w' hF' hb hd
  obtain⟨v16_0,e16,h16_1⟩:=sH hd 0 16 rfl rfl rfl rfl
  obtain⟨v20_0,e20,h20_1⟩:=sH hd 1 20 rfl rfl rfl rfl
  exact dc0 (r_call Tryz.func36 en36.1 en36.2 (map2 e16 e20)) (rSub_any _ _ _ _ (max 2 ((2*(((k+2+1)+2)+2+1)+5*2+2*2+8)+2)) _ h16_1 h20_1 ((rlim_int (limz_64 (by decide) (by decide)) (by omega)).up _ (by omega)) ((rlim_mul (rlim_abs (rinto_lim (k:=(((k+2+1)+2)+2+1)) (j:=2) (i:=2) (rlim_sub (rlim_mul (rlim_sub hl (rlim_int (limz_64 (by decide) (by decide)) (by omega))) (RLim.up (rlim_mk2 (limz_64 (by decide) (by decide)) (limz_64 (by decide) (by decide))) 2 (by decide))) (RLim.up (rlim_mk2 (limz_64 (by decide) (by decide)) (limz_64 (by decide) (by decide))) 2 (by decide))) (RLim.up (rlim_mk2 (limz_64 (by decide) (by decide)) (limz_64 (by decide) (by decide))) 2 (by decide)) (RLim.up (rlim_mk2 (limz_64 (by decide) (by decide)) (limz_64 (by decide) (by decide))) 2 (by decide)))) (rlim_int (limz_64 (by decide) (by decide)) (by omega))).up _ (by omega)) (by omega)) rfl rfl
 intro a w14 hF bb hall hne
 replace st:=st.to bb
 obtain⟨vv15,e21,hh16⟩:=sS hall 5 21 rfl rfl
 replace st:=st.add hh16 (Rq.cl _)
 clear hh16
 clear hall hne bb
 obtain⟨b17,ad17,n17,c17,ae17,m17,d17,rfl⟩:=Rq.form (st.f 0 rfl)
 replace hF:=hF.add e21
 clear e21
 refine S.sto st hF 2 rfl (hF.at 5 rfl) (hF.at 0 rfl) ty_Rat rfl rfl rfl rfl fun w18 a st hF=>?_
 refine E.nil ?_
 refine wp_ret ?_
 refine S.ret Tryz.results14 st hF (hF.at 5 rfl) 2 rfl ty_Rat rfl hF.dfr ?_
 have bel:=st.bel
 exact⟨_,rfl,Rq.castM (st.f 0 rfl) (by unfold precV;rw[Rat.mul_comm ((108:Int):Rat)];rfl),bel⟩
theorem reTropical_any (v1:Value) (qt:Rat) (k:Nat) (w:World) (hT:TabD w) (h1:Rq w v1 qt) (hl:RLim qt k) (hk:k≤20):
 Calls Tryz.prog 16 #[v1] w (RqPost w (tropV qt)):=by
 have st:=St.start w
 refine E.enter (nt:=10) (L:=[(0,v1)]) Tryz.func16 rfl rfl rfl (args_cons (i:=0) rfl args_nil) ?_
 intro a hF
 refine wp_seq ?_
 refine E.seq ?_
 obtain⟨b2,ad2,n2,c2,ae2,m2,d2,rfl⟩:=Rq.form h1
 refine S.box st hF (hF.at 0 rfl) rfl rfl fun g1 w1 a st hF=>?_
 refine S.alloc st hF ty_Rat rfl rfl fun g2 w3 a st hF=>?_
 refine E.nil ?_
 refine wp_seq ?_
 refine E.drawn 7 mixed hF [3,4,5,6,7,8,9] [(fun _ v=>v= .agg #[.bool b2,.slice ad2 n2 c2,.slice ae2 m2 d2]),(fun w v=>Rq w v (sunV (qt))),(fun _ v=>v= .agg #[.bool b2,.slice ad2 n2 c2,.slice ae2 m2 d2]),(fun w v=>Rq w v (precV (qt))),(fun w v=>Rq w v ((sunV (qt))-(precV (qt)))),(fun w v=>Rq w v (((360:Int):Rat))),(fun w v=>Rq w v (rmod ((sunV (qt))-(precV (qt))) (((360:Int):Rat))))] [] (by decide+kernel) (by decide+kernel) rfl rfl rfl ⟨(Mb.eq _),(fun _ _ _ h hb=>h.below hb),(Mb.eq _),(fun _ _ _ h hb=>h.below hb),(fun _ _ _ h hb=>h.below hb),(fun _ _ _ h hb=>h.below hb),(fun _ _ _ h hb=>h.below hb),trivial⟩ trivial ⟨?_,?_,?_,?_,?_,?_,?_,trivial⟩ ?_
 ·intro a' w' hF' hb hd
  exact dv0 (r_load (hF'.at 1 rfl) (ld_all ty_Rat ((st.bk 1 rfl).below hb) rfl)) rfl rfl rfl
 ·intro a' w' hF' hb hd
  have e3:=sHe hd 0 3 rfl rfl rfl rfl
  exact dc0 (r_call Tryz.func45 en45.1 en45.2 (map1 e3)) (oSun_any _ (qt) k _ (hT.below (below_to st.bel hb)) (h1.below (below_to st.bel hb)) hl (by omega)) rfl rfl
 ·intro a' w' hF' hb hd
  exact dv0 (r_load (hF'.at 1 rfl) (ld_all ty_Rat ((st.bk 1 rfl).below hb) rfl)) rfl rfl rfl
 ·intro a' w' hF' hb hd
  have e5:=sHe hd 0 5 rfl rfl rfl rfl
  exact dc0 (r_call Tryz.func14 en14.1 en14.2 (map1 e5)) (rePrecession_any _ (qt) k _ (h1.below (below_to st.bel hb)) hl (by omega)) rfl rfl
 ·intro a' w' hF' hb hd
  obtain⟨v4_0,e4,h4_1⟩:=sH hd 0 4 rfl rfl rfl rfl
  obtain⟨v6_0,e6,h6_1⟩:=sH hd 1 6 rfl rfl rfl rfl
  exact dc0 (r_call Tryz.func36 en36.1 en36.2 (map2 e4 e6)) (rSub_any _ _ _ _ (max (3*k+100) (2*k+60)) _ h4_1 h6_1 ((sunV_lim hl).up _ (by omega)) ((prec_lim hl).up _ (by omega)) (by omega)) rfl rfl
 ·intro a' w' hF' hb hd
  exact dc0 (r_call Tryz.func41 en41.1 en41.2 (map1 ev_c)) (rWhole_any (360) _ (by decide) (by decide)) rfl rfl
 ·intro a' w' hF' hb hd
  obtain⟨v7_0,e7,h7_1⟩:=sH hd 0 7 rfl rfl rfl rfl
  obtain⟨v8_0,e8,h8_1⟩:=sH hd 1 8 rfl rfl rfl rfl
  exact dc0 (r_call Tryz.func75 en75.1 en75.2 (map2 e7 e8)) (cMod_any _ _ _ _ ((3*k+100)+(2*k+60)+1) 2 _ h7_1 h8_1 (rlim_sub (sunV_lim hl) (prec_lim hl)) (rlim_int (limz_64 (by decide) (by decide)) (by omega)) (by omega) (by omega)) rfl rfl
 intro a w4 hF bb hall hne
 replace st:=st.to bb
 obtain⟨vv5,e9,hh6⟩:=sS hall 6 9 rfl rfl
 replace st:=st.add hh6 (Rq.cl _)
 clear hh6
 clear hall hne bb
 obtain⟨b7,ad7,n7,c7,ae7,m7,d7,rfl⟩:=Rq.form (st.f 0 rfl)
 replace hF:=hF.add e9
 clear e9
 refine S.sto st hF 0 rfl (hF.at 1 rfl) (hF.at 0 rfl) ty_Rat rfl rfl rfl rfl fun w8 a st hF=>?_
 refine E.nil ?_
 refine wp_ret ?_
 refine S.ret Tryz.results16 st hF (hF.at 1 rfl) 0 rfl ty_Rat rfl hF.dfr ?_
 have bel:=st.bel
 exact⟨_,rfl,(st.f 0 rfl),bel⟩
theorem reanomaly_any (v1:Value) (qt:Rat) (k:Nat) (w:World) (h1:Rq w v1 qt) (hl:RLim qt k) (hk:k≤20):
 Calls Tryz.prog 79 #[v1] w (RqPost w (mof qt pay)):=by
 have st:=St.start w
 refine E.enter (nt:=6) (L:=[(0,v1)]) Tryz.func79 rfl rfl rfl (args_cons (i:=0) rfl args_nil) ?_
 intro a hF
 refine wp_seq ?_
 refine E.seq ?_
 obtain⟨b2,ad2,n2,c2,ae2,m2,d2,rfl⟩:=Rq.form h1
 refine S.box st hF (hF.at 0 rfl) rfl rfl fun g1 w1 a st hF=>?_
 refine S.alloc st hF ty_Rat rfl rfl fun g2 w3 a st hF=>?_
 refine E.nil ?_
 refine wp_seq ?_
 refine E.drawn 3 mixed hF [3,4,5] [(fun _ v=>v= .agg #[.bool b2,.slice ad2 n2 c2,.slice ae2 m2 d2]),(fun w v=>Rq w v (pay)),(fun w v=>Rq w v (mof (qt) (pay)))] [] (by decide+kernel) (by decide+kernel) rfl rfl rfl ⟨(Mb.eq _),(fun _ _ _ h hb=>h.below hb),(fun _ _ _ h hb=>h.below hb),trivial⟩ trivial ⟨?_,?_,?_,trivial⟩ ?_
 ·intro a' w' hF' hb hd
  exact dv0 (r_load (hF'.at 1 rfl) (ld_all ty_Rat ((st.bk 1 rfl).below hb) rfl)) rfl rfl rfl
 ·intro a' w' hF' hb hd
  exact dc0 (r_call Tryz.func138 en138.1 en138.2 map0) (mAnomalyYear_any _) rfl rfl
 ·intro a' w' hF' hb hd
  have e3:=sHe hd 0 3 rfl rfl rfl rfl
  obtain⟨v4_0,e4,h4_1⟩:=sH hd 1 4 rfl rfl rfl rfl
  exact dc0 (r_call Tryz.func137 en137.1 en137.2 (map2 e3 e4)) (mOf_any _ _ (qt) (pay) k 2 _ (h1.below (below_to st.bel hb)) h4_1 hl pay_lim (by omega) (by omega)) rfl rfl
 intro a w4 hF bb hall hne
 replace st:=st.to bb
 obtain⟨vv5,e5,hh6⟩:=sS hall 2 5 rfl rfl
 replace st:=st.add hh6 (Rq.cl _)
 clear hh6
 clear hall hne bb
 obtain⟨b7,ad7,n7,c7,ae7,m7,d7,rfl⟩:=Rq.form (st.f 0 rfl)
 replace hF:=hF.add e5
 clear e5
 refine S.sto st hF 0 rfl (hF.at 1 rfl) (hF.at 0 rfl) ty_Rat rfl rfl rfl rfl fun w8 a st hF=>?_
 refine E.nil ?_
 refine wp_ret ?_
 refine S.ret Tryz.results79 st hF (hF.at 1 rfl) 0 rfl ty_Rat rfl hF.dfr ?_
 have bel:=st.bel
 exact⟨_,rfl,(st.f 0 rfl),bel⟩
theorem reepicycle_any (v1:Value) (qt:Rat) (k:Nat) (w:World) (h1:Rq w v1 qt) (hl:RLim qt k) (hk:k≤1000):
 Calls Tryz.prog 134 #[v1] w (RqPost w (epiQ qt)):=by
 have st:=St.start w
 refine E.enter (nt:=9) (L:=[(0,v1)]) Tryz.func134 rfl rfl rfl (args_cons (i:=0) rfl args_nil) ?_
 intro a hF
 refine wp_seq ?_
 refine E.seq ?_
 obtain⟨b2,ad2,n2,c2,ae2,m2,d2,rfl⟩:=Rq.form h1
 refine S.box st hF (hF.at 0 rfl) rfl rfl fun g1 w1 a st hF=>?_
 refine S.alloc st hF ty_Rat rfl rfl fun g2 w3 a st hF=>?_
 refine E.nil ?_
 refine wp_seq ?_
 refine E.drawn 6 mixed hF [3,4,5,6,7,8] [(fun w v=>Rq w v (((14:Int):Rat)/((360:Int):Rat))),(fun _ v=>v= .agg #[.bool b2,.slice ad2 n2 c2,.slice ae2 m2 d2]),(fun w v=>Rq w v (Rat.abs (qt))),(fun w v=>Rq w v (((1:Int):Rat)/((1080:Int):Rat))),(fun w v=>Rq w v ((Rat.abs (qt))*(((1:Int):Rat)/((1080:Int):Rat)))),(fun w v=>Rq w v ((((14:Int):Rat)/((360:Int):Rat))-((Rat.abs (qt))*(((1:Int):Rat)/((1080:Int):Rat)))))] [] (by decide+kernel) (by decide+kernel) rfl rfl rfl ⟨(fun _ _ _ h hb=>h.below hb),(Mb.eq _),(fun _ _ _ h hb=>h.below hb),(fun _ _ _ h hb=>h.below hb),(fun _ _ _ h hb=>h.below hb),(fun _ _ _ h hb=>h.below hb),trivial⟩ trivial ⟨?_,?_,?_,?_,?_,?_,trivial⟩ ?_
 ·intro a' w' hF' hb hd
  exact dc0 (r_call Tryz.func38 en38.1 en38.2 (map2 ev_c ev_c)) (rOf2_any (14) (360) _ (by decide) (by decide) (by decide) (by decide)) rfl rfl
 ·intro a' w' hF' hb hd
  exact dv0 (r_load (hF'.at 1 rfl) (ld_all ty_Rat ((st.bk 1 rfl).below hb) rfl)) rfl rfl rfl
 ·intro a' w' hF' hb hd
  have e4:=sHe hd 0 4 rfl rfl rfl rfl
  exact dc0 (r_call Tryz.func53 en53.1 en53.2 (map1 e4)) (rAbs_any _ (qt) _ (h1.below (below_to st.bel hb))) rfl rfl
 ·intro a' w' hF' hb hd
  exact dc0 (r_call Tryz.func38 en38.1 en38.2 (map2 ev_c ev_c)) (rOf2_any (1) (1080) _ (by decide) (by decide) (by decide) (by decide)) rfl rfl
 ·intro a' w' hF' hb hd
  obtain⟨v5_0,e5,h5_1⟩:=sH hd 0 5 rfl rfl rfl rfl
  obtain⟨v6_0,e6,h6_1⟩:=sH hd 1 6 rfl rfl rfl rfl
  exact dc0 (r_call Tryz.func52 en52.1 en52.2 (map2 e5 e6)) (rMul_any _ _ _ _ (max k 2) _ h5_1 h6_1 ((rlim_abs hl).up _ (by omega)) ((RLim.up (rlim_mk2 (limz_64 (by decide) (by decide)) (limz_64 (by decide) (by decide))) 2 (by decide)).up _ (by omega)) (by omega)) rfl rfl
 ·intro a' w' hF' hb hd
  obtain⟨v3_0,e3,h3_1⟩:=sH hd 0 3 rfl rfl rfl rfl
  obtain⟨v7_0,e7,h7_1⟩:=sH hd 1 7 rfl rfl rfl rfl
  exact dc0 (r_call Tryz.func36 en36.1 en36.2 (map2 e3 e7)) (rSub_any _ _ _ _ (max 2 (k+2)) _ h3_1 h7_1 ((RLim.up (rlim_mk2 (limz_64 (by decide) (by decide)) (limz_64 (by decide) (by decide))) 2 (by decide)).up _ (by omega)) ((rlim_mul (rlim_abs hl) (RLim.up (rlim_mk2 (limz_64 (by decide) (by decide)) (limz_64 (by decide) (by decide))) 2 (by decide))).up _ (by omega)) (by omega)) rfl rfl
 intro a w4 hF bb hall hne
 replace st:=st.to bb
 obtain⟨vv5,e8,hh6⟩:=sS hall 5 8 rfl rfl
 replace st:=st.add hh6 (Rq.cl _)
 clear hh6
 clear hall hne bb
 obtain⟨b7,ad7,n7,c7,ae7,m7,d7,rfl⟩:=Rq.form (st.f 0 rfl)
 replace hF:=hF.add e8
 clear e8
 refine S.sto st hF 0 rfl (hF.at 1 rfl) (hF.at 0 rfl) ty_Rat rfl rfl rfl rfl fun w8 a st hF=>?_
 refine E.nil ?_
 refine wp_ret ?_
 refine S.ret Tryz.results134 st hF (hF.at 1 rfl) 0 rfl ty_Rat rfl hF.dfr ?_
 have bel:=st.bel
 exact⟨_,rfl,(st.f 0 rfl),bel⟩
theorem remotion_any (v1:Value) (qt:Rat) (k:Nat) (w:World) (hT:TabD w) (h1:Rq w v1 qt) (hl:RLim qt k) (hk:k≤300):
 Calls Tryz.prog 78 #[v1] w (RqPost w (motQ qt)):=by
 have hpk:=pk_bd qt
 have hsa:=sp_step (pk qt)
 have st:=St.start w
 refine E.enter (nt:=18) (L:=[(0,v1)]) Tryz.func78 rfl rfl rfl (args_cons (i:=0) rfl args_nil) ?_
 intro a hF
 refine wp_seq ?_
 refine E.seq ?_
 obtain⟨b2,ad2,n2,c2,ae2,m2,d2,rfl⟩:=Rq.form h1
 refine S.box st hF (hF.at 0 rfl) rfl rfl fun g1 w1 a st hF=>?_
 refine S.alloc st hF ty_Rat rfl rfl fun g2 w3 a st hF=>?_
 refine E.nil ?_
 refine wp_seq ?_
 refine E.drawn 8 mixed hF [4,5,6,7,8,9,10,3] [(fun _ v=>v= .agg #[.bool b2,.slice ad2 n2 c2,.slice ae2 m2 d2]),(fun _ v=>v= .int .i64 (spk (pk (qt)+1)-spk (pk (qt)))),(fun w v=>Rq w v (((spk (pk (qt)+1)-spk (pk (qt)):Int):Rat)/((225:Int):Rat))),(fun _ v=>v= .agg #[.bool b2,.slice ad2 n2 c2,.slice ae2 m2 d2]),(fun w v=>Rq w v (sof (qt))),(fun w v=>Rq w v (epiQ (sof (qt)))),(fun w v=>Rq w v ((((spk (pk (qt)+1)-spk (pk (qt)):Int):Rat)/((225:Int):Rat))*(epiQ (sof (qt))))),(fun w v=>∃g,v= .pointer (some ⟨g,0,none⟩)∧w3.heap.size≤g∧Own w g [.bool false,.slice none 0 0,.slice none 0 0])] [7] (by decide+kernel) (by decide+kernel) rfl rfl rfl ⟨(Mb.eq _),(Mb.eq _),(fun _ _ _ h hb=>h.below hb),(Mb.eq _),(fun _ _ _ h hb=>h.below hb),(fun _ _ _ h hb=>h.below hb),(fun _ _ _ h hb=>h.below hb),(fun _ _ _ ⟨g,e,l,o⟩ hb=>⟨g,e,l,o.below hb⟩),trivial⟩ ⟨fun _ _ ⟨g,e,_,o⟩=>⟨g,e,o.lt⟩,trivial⟩ ⟨?_,?_,?_,?_,?_,?_,?_,?_,trivial⟩ ?_
 ·intro a' w' hF' hb hd
  exact dv0 (r_load (hF'.at 1 rfl) (ld_all ty_Rat ((st.bk 1 rfl).below hb) rfl)) rfl rfl rfl
 ·intro a' w' hF' hb hd
  have e4:=sHe hd 0 4 rfl rfl rfl rfl
  exact dcx0 (r_call Tryz.func133 en133.1 en133.2 (map1 e4)) (step_any _ (qt) k _ (hT.below (below_to st.bel hb)) (h1.below (below_to st.bel hb)) hl (by omega)) (fun _=>rfl) rfl rfl
 ·intro a' w' hF' hb hd
  have e5:=sHe hd 0 5 rfl rfl rfl rfl
  exact dc0 (r_call Tryz.func38 en38.1 en38.2 (map2 e5 ev_c)) (rOf2_any (spk (pk (qt)+1)-spk (pk (qt))) (225) _ (dif64 (pk (qt))).1 (dif64 (pk (qt))).2 (by decide) (by decide)) rfl rfl
 ·intro a' w' hF' hb hd
  exact dv0 (r_load (hF'.at 1 rfl) (ld_all ty_Rat ((st.bk 1 rfl).below hb) rfl)) rfl rfl rfl
 ·intro a' w' hF' hb hd
  have e7:=sHe hd 0 7 rfl rfl rfl rfl
  exact dc0 (r_call Tryz.func135 en135.1 en135.2 (map1 e7)) (sof_any _ (qt) k _ (hT.below (below_to st.bel hb)) (h1.below (below_to st.bel hb)) hl (by omega)) rfl rfl
 ·intro a' w' hF' hb hd
  obtain⟨v8_0,e8,h8_1⟩:=sH hd 0 8 rfl rfl rfl rfl
  exact dc0 (r_call Tryz.func134 en134.1 en134.2 (map1 e8)) (reepicycle_any _ (sof (qt)) (k+12) _ h8_1 (sof_lim2 hl) (by omega)) rfl rfl
 ·intro a' w' hF' hb hd
  obtain⟨v6_0,e6,h6_1⟩:=sH hd 0 6 rfl rfl rfl rfl
  obtain⟨v9_0,e9,h9_1⟩:=sH hd 1 9 rfl rfl rfl rfl
  exact dc0 (r_call Tryz.func52 en52.1 en52.2 (map2 e6 e9)) (rMul_any _ _ _ _ (max 2 ((k+12)+3)) _ h6_1 h9_1 ((RLim.up (rlim_mk2 (limz_64 (dif64 (pk (qt))).1 (dif64 (pk (qt))).2) (limz_64 (by decide) (by decide))) 2 (by decide)).up _ (by omega)) ((epiQ_lim (sof_lim2 hl)).up _ (by omega)) (by omega)) rfl rfl
 ·intro a' w' hF' hb hd
  exact da0 ty_Rat rfl hb.size rfl
 intro a w4 hF bb hall hne
 have s0:=st
 replace st:=st.to bb
 obtain⟨vv5,e10,hh6⟩:=sS hall 6 10 rfl rfl
 replace st:=st.add hh6 (Rq.cl _)
 clear hh6
 obtain⟨_,e3,g3,rfl,ge3,o3⟩:=sS hall 7 3 rfl rfl
 replace st:=st.push o3.blk (Nat.le_trans s0.bel.size ge3) (s0.ne ge3)
 clear o3
 clear hall hne bb s0
 obtain⟨b7,ad7,n7,c7,ae7,m7,d7,rfl⟩:=Rq.form (st.f 0 rfl)
 replace hF:=hF.add e10
 clear e10
 replace hF:=hF.add e3
 clear e3
 refine S.sto st hF 0 rfl (hF.at 0 rfl) (hF.at 1 rfl) ty_Rat rfl rfl rfl rfl fun w8 a st hF=>?_
 refine E.nil ?_
 refine wp_seq ?_
 refine E.drawn 7 mixed hF [11,12,13,14,15,16,17] [(fun w v=>Rq w v (((360:Int):Rat))),(fun w v=>Rq w v (pyr)),(fun w v=>Rq w v ((((360:Int):Rat))/(pyr))),(fun w v=>Rq w v (((1:Int):Rat))),(fun _ v=>v= .agg #[.bool b7,.slice ad7 n7 c7,.slice ae7 m7 d7]),(fun w v=>Rq w v ((((1:Int):Rat))-((((spk (pk (qt)+1)-spk (pk (qt)):Int):Rat)/((225:Int):Rat))*(epiQ (sof (qt)))))),(fun w v=>Rq w v (((((360:Int):Rat))/(pyr))*((((1:Int):Rat))-((((spk (pk (qt)+1)-spk (pk (qt)):Int):Rat)/((225:Int):Rat))*(epiQ (sof (qt)))))))] [] (by decide+kernel) (by decide+kernel) rfl rfl rfl ⟨(fun _ _ _ h hb=>h.below hb),(fun _ _ _ h hb=>h.below hb),(fun _ _ _ h hb=>h.below hb),(fun _ _ _ h hb=>h.below hb),(Mb.eq _),(fun _ _ _ h hb=>h.below hb),(fun _ _ _ h hb=>h.below hb),trivial⟩ trivial ⟨?_,?_,?_,?_,?_,?_,?_,trivial⟩ ?_
 ·intro a' w' hF' hb hd
  exact dc0 (r_call Tryz.func41 en41.1 en41.2 (map1 ev_c)) (rWhole_any (360) _ (by decide) (by decide)) rfl rfl
 ·intro a' w' hF' hb hd
  exact dc0 (r_call Tryz.func136 en136.1 en136.2 map0) (mYear_any _) rfl rfl
 ·intro a' w' hF' hb hd
  obtain⟨v11_0,e11,h11_1⟩:=sH hd 0 11 rfl rfl rfl rfl
  obtain⟨v12_0,e12,h12_1⟩:=sH hd 1 12 rfl rfl rfl rfl
  exact dc0 (r_call Tryz.func40 en40.1 en40.2 (map2 e11 e12)) (rDiv_any _ _ _ (pyr) 2 _ h11_1 h12_1 ((rlim_int (limz_64 (by decide) (by decide)) (by omega)).up _ (by omega)) (pyr_lim.up _ (by omega)) (by omega)) rfl rfl
 ·intro a' w' hF' hb hd
  exact dc0 (r_call Tryz.func41 en41.1 en41.2 (map1 ev_c)) (rWhole_any (1) _ (by decide) (by decide)) rfl rfl
 ·intro a' w' hF' hb hd
  exact dv0 (r_load (hF'.at 0 rfl) (ld_all ty_Rat ((st.bk 0 rfl).below hb) rfl)) rfl rfl rfl
 ·intro a' w' hF' hb hd
  obtain⟨v14_0,e14,h14_1⟩:=sH hd 0 14 rfl rfl rfl rfl
  have e15:=sHe hd 1 15 rfl rfl rfl rfl
  exact dc0 (r_call Tryz.func36 en36.1 en36.2 (map2 e14 e15)) (rSub_any _ _ _ _ (max 2 (2+((k+12)+3))) _ h14_1 ((st.f 0 rfl).below hb) ((rlim_int (limz_64 (by decide) (by decide)) (by omega)).up _ (by omega)) ((rlim_mul (RLim.up (rlim_mk2 (limz_64 (dif64 (pk (qt))).1 (dif64 (pk (qt))).2) (limz_64 (by decide) (by decide))) 2 (by decide)) (epiQ_lim (sof_lim2 hl))).up _ (by omega)) (by omega)) rfl rfl
 ·intro a' w' hF' hb hd
  obtain⟨v13_0,e13,h13_1⟩:=sH hd 0 13 rfl rfl rfl rfl
  obtain⟨v16_0,e16,h16_1⟩:=sH hd 1 16 rfl rfl rfl rfl
  exact dc0 (r_call Tryz.func52 en52.1 en52.2 (map2 e13 e16)) (rMul_any _ _ _ _ (max (2+2) (2+(2+((k+12)+3))+1)) _ h13_1 h16_1 ((rlim_div (rlim_int (limz_64 (by decide) (by decide)) (by omega)) pyr_lim).up _ (by omega)) ((rlim_sub (rlim_int (limz_64 (by decide) (by decide)) (by omega)) (rlim_mul (RLim.up (rlim_mk2 (limz_64 (dif64 (pk (qt))).1 (dif64 (pk (qt))).2) (limz_64 (by decide) (by decide))) 2 (by decide)) (epiQ_lim (sof_lim2 hl)))).up _ (by omega)) (by omega)) rfl rfl
 intro a w9 hF bb hall hne
 replace st:=st.to bb
 obtain⟨vv10,e17,hh11⟩:=sS hall 6 17 rfl rfl
 replace st:=st.add hh11 (Rq.cl _)
 clear hh11
 clear hall hne bb
 obtain⟨b12,ad12,n12,c12,ae12,m12,d12,rfl⟩:=Rq.form (st.f 0 rfl)
 replace hF:=hF.add e17
 clear e17
 refine S.sto st hF 1 rfl (hF.at 3 rfl) (hF.at 0 rfl) ty_Rat rfl rfl rfl rfl fun w13 a st hF=>?_
 refine E.nil ?_
 refine wp_ret ?_
 refine S.ret Tryz.results78 st hF (hF.at 3 rfl) 1 rfl ty_Rat rfl hF.dfr ?_
 have bel:=st.bel
 exact⟨_,rfl,(st.f 0 rfl),bel⟩
theorem reequation_any (v1:Value) (qt:Rat) (k:Nat) (w:World) (hT:TabD w) (h1:Rq w v1 qt) (hl:RLim qt k) (hk:k≤300):
 Calls Tryz.prog 88 #[v1] w (RqPost w (eqnQ qt)):=by
 have st:=St.start w
 refine E.enter (nt:=23) (L:=[(0,v1)]) Tryz.func88 rfl rfl rfl (args_cons (i:=0) rfl args_nil) ?_
 intro a hF
 refine wp_seq ?_
 refine E.seq ?_
 obtain⟨b2,ad2,n2,c2,ae2,m2,d2,rfl⟩:=Rq.form h1
 refine S.box st hF (hF.at 0 rfl) rfl rfl fun g1 w1 a st hF=>?_
 refine S.alloc st hF ty_Rat rfl rfl fun g2 w3 a st hF=>?_
 refine E.nil ?_
 refine wp_seq ?_
 refine E.seq ?_
 refine E.opv hF (r_load (hF.at 1 rfl) (ld_all ty_Rat (st.bk 1 rfl) rfl)) rfl rfl rfl rfl fun a hF=>?_
 refine S.call st hF (r_call Tryz.func135 en135.1 en135.2 (map1 (hF.at 0 rfl))) (sof_any _ (qt) k _ (hT.below st.bel) (h1.below st.bel) hl (by omega)) (fun _ _ h=>h) Rq.cl rfl rfl rfl rfl fun vv5 w4 a st hF=>?_
 obtain⟨b7,ad7,n7,c7,ae7,m7,d7,rfl⟩:=Rq.form (st.f 0 rfl)
 refine S.new st hF 0 rfl ty_Rat rfl rfl rfl rfl rfl fun g3 w8 a st hF=>?_
 refine E.nil ?_
 refine wp_seq ?_
 refine E.drawn 7 mixed hF [7,8,9,10,11,12,4] [(fun _ v=>v= .agg #[.bool b7,.slice ad7 n7 c7,.slice ae7 m7 d7]),(fun w v=>Rq w v (((573:Int):Rat)/((10:Int):Rat))),(fun w v=>Rq w v ((sof (qt))*(((573:Int):Rat)/((10:Int):Rat)))),(fun _ v=>v= .agg #[.bool b7,.slice ad7 n7 c7,.slice ae7 m7 d7]),(fun w v=>Rq w v (epiQ (sof (qt)))),(fun w v=>Rq w v (((sof (qt))*(((573:Int):Rat)/((10:Int):Rat)))*(epiQ (sof (qt))))),(fun w v=>∃g,v= .pointer (some ⟨g,0,none⟩)∧w8.heap.size≤g∧Own w g [.bool false,.slice none 0 0,.slice none 0 0])] [6] (by decide+kernel) (by decide+kernel) rfl rfl rfl ⟨(Mb.eq _),(fun _ _ _ h hb=>h.below hb),(fun _ _ _ h hb=>h.below hb),(Mb.eq _),(fun _ _ _ h hb=>h.below hb),(fun _ _ _ h hb=>h.below hb),(fun _ _ _ ⟨g,e,l,o⟩ hb=>⟨g,e,l,o.below hb⟩),trivial⟩ ⟨fun _ _ ⟨g,e,_,o⟩=>⟨g,e,o.lt⟩,trivial⟩ ⟨?_,?_,?_,?_,?_,?_,?_,trivial⟩ ?_
 ·intro a' w' hF' hb hd
  exact dv0 (r_load (hF'.at 0 rfl) (ld_all ty_Rat ((st.bk 0 rfl).below hb) rfl)) rfl rfl rfl
 ·intro a' w' hF' hb hd
  exact dc0 (r_call Tryz.func38 en38.1 en38.2 (map2 ev_c ev_c)) (rOf2_any (573) (10) _ (by decide) (by decide) (by decide) (by decide)) rfl rfl
 ·intro a' w' hF' hb hd
  have e7:=sHe hd 0 7 rfl rfl rfl rfl
  obtain⟨v8_0,e8,h8_1⟩:=sH hd 1 8 rfl rfl rfl rfl
  exact dc0 (r_call Tryz.func52 en52.1 en52.2 (map2 e7 e8)) (rMul_any _ _ (sof (qt)) _ (max (k+12) 2) _ ((st.f 0 rfl).below hb) h8_1 ((sof_lim2 hl).up _ (by omega)) ((RLim.up (rlim_mk2 (limz_64 (by decide) (by decide)) (limz_64 (by decide) (by decide))) 2 (by decide)).up _ (by omega)) (by omega)) rfl rfl
 ·intro a' w' hF' hb hd
  exact dv0 (r_load (hF'.at 0 rfl) (ld_all ty_Rat ((st.bk 0 rfl).below hb) rfl)) rfl rfl rfl
 ·intro a' w' hF' hb hd
  have e10:=sHe hd 0 10 rfl rfl rfl rfl
  exact dc0 (r_call Tryz.func134 en134.1 en134.2 (map1 e10)) (reepicycle_any _ (sof (qt)) (k+12) _ ((st.f 0 rfl).below hb) (sof_lim2 hl) (by omega)) rfl rfl
 ·intro a' w' hF' hb hd
  obtain⟨v9_0,e9,h9_1⟩:=sH hd 0 9 rfl rfl rfl rfl
  obtain⟨v11_0,e11,h11_1⟩:=sH hd 1 11 rfl rfl rfl rfl
  exact dc0 (r_call Tryz.func52 en52.1 en52.2 (map2 e9 e11)) (rMul_any _ _ _ _ (max ((k+12)+2) ((k+12)+3)) _ h9_1 h11_1 ((rlim_mul (sof_lim2 hl) (RLim.up (rlim_mk2 (limz_64 (by decide) (by decide)) (limz_64 (by decide) (by decide))) 2 (by decide))).up _ (by omega)) ((epiQ_lim (sof_lim2 hl)).up _ (by omega)) (by omega)) rfl rfl
 ·intro a' w' hF' hb hd
  exact da0 ty_Rat rfl hb.size rfl
 intro a w9 hF bb hall hne
 have s0:=st
 replace st:=st.to bb
 obtain⟨vv10,e12,hh11⟩:=sS hall 5 12 rfl rfl
 replace st:=st.add hh11 (Rq.cl _)
 clear hh11
 obtain⟨_,e4,g4,rfl,ge4,o4⟩:=sS hall 6 4 rfl rfl
 replace st:=st.push o4.blk (Nat.le_trans s0.bel.size ge4) (s0.ne ge4)
 clear o4
 clear hall hne bb s0
 obtain⟨b12,ad12,n12,c12,ae12,m12,d12,rfl⟩:=Rq.form (st.f 0 rfl)
 replace hF:=hF.add e12
 clear e12
 replace hF:=hF.add e4
 clear e4
 refine S.sto st hF 0 rfl (hF.at 0 rfl) (hF.at 1 rfl) ty_Rat rfl rfl rfl rfl fun w13 a st hF=>?_
 refine E.nil ?_
 refine wp_seq ?_
 refine E.drawn 10 mixed hF [13,14,15,16,17,18,19,20,21,22] [(fun _ v=>v= .agg #[.bool b2,.slice ad2 n2 c2,.slice ae2 m2 d2]),(fun w v=>Rq w v (motQ (qt))),(fun w v=>Rq w v (((1:Int):Rat)/((360:Int):Rat))),(fun w v=>Rq w v ((motQ (qt))*(((1:Int):Rat)/((360:Int):Rat)))),(fun _ v=>v= .agg #[.bool b12,.slice ad12 n12 c12,.slice ae12 m12 d12]),(fun w v=>Rq w v (((1:Int):Rat)/((360:Int):Rat))),(fun w v=>Rq w v ((((sof (qt))*(((573:Int):Rat)/((10:Int):Rat)))*(epiQ (sof (qt))))*(((1:Int):Rat)/((360:Int):Rat)))),(fun w v=>Rq w v (((motQ (qt))*(((1:Int):Rat)/((360:Int):Rat)))*((((sof (qt))*(((573:Int):Rat)/((10:Int):Rat)))*(epiQ (sof (qt))))*(((1:Int):Rat)/((360:Int):Rat))))),(fun w v=>Rq w v (pyr)),(fun w v=>Rq w v ((((motQ (qt))*(((1:Int):Rat)/((360:Int):Rat)))*((((sof (qt))*(((573:Int):Rat)/((10:Int):Rat)))*(epiQ (sof (qt))))*(((1:Int):Rat)/((360:Int):Rat))))*(pyr)))] [] (by decide+kernel) (by decide+kernel) rfl rfl rfl ⟨(Mb.eq _),(fun _ _ _ h hb=>h.below hb),(fun _ _ _ h hb=>h.below hb),(fun _ _ _ h hb=>h.below hb),(Mb.eq _),(fun _ _ _ h hb=>h.below hb),(fun _ _ _ h hb=>h.below hb),(fun _ _ _ h hb=>h.below hb),(fun _ _ _ h hb=>h.below hb),(fun _ _ _ h hb=>h.below hb),trivial⟩ trivial ⟨?_,?_,?_,?_,?_,?_,?_,?_,?_,?_,trivial⟩ ?_
 ·intro a' w' hF' hb hd
  exact dv0 (r_load (hF'.at 6 rfl) (ld_all ty_Rat ((st.bk 3 rfl).below hb) rfl)) rfl rfl rfl
 ·intro a' w' hF' hb hd
  have e13:=sHe hd 0 13 rfl rfl rfl rfl
  exact dc0 (r_call Tryz.func78 en78.1 en78.2 (map1 e13)) (remotion_any _ (qt) k _ (hT.below (below_to st.bel hb)) (h1.below (below_to st.bel hb)) hl (by omega)) rfl rfl
 ·intro a' w' hF' hb hd
  exact dc0 (r_call Tryz.func38 en38.1 en38.2 (map2 ev_c ev_c)) (rOf2_any (1) (360) _ (by decide) (by decide) (by decide) (by decide)) rfl rfl
 ·intro a' w' hF' hb hd
  obtain⟨v14_0,e14,h14_1⟩:=sH hd 0 14 rfl rfl rfl rfl
  obtain⟨v15_0,e15,h15_1⟩:=sH hd 1 15 rfl rfl rfl rfl
  exact dc0 (r_call Tryz.func52 en52.1 en52.2 (map2 e14 e15)) (rMul_any _ _ _ _ (max (k+40) 2) _ h14_1 h15_1 ((motQ_lim hl).up _ (by omega)) ((RLim.up (rlim_mk2 (limz_64 (by decide) (by decide)) (limz_64 (by decide) (by decide))) 2 (by decide)).up _ (by omega)) (by omega)) rfl rfl
 ·intro a' w' hF' hb hd
  exact dv0 (r_load (hF'.at 0 rfl) (ld_all ty_Rat ((st.bk 0 rfl).below hb) rfl)) rfl rfl rfl
 ·intro a' w' hF' hb hd
  exact dc0 (r_call Tryz.func38 en38.1 en38.2 (map2 ev_c ev_c)) (rOf2_any (1) (360) _ (by decide) (by decide) (by decide) (by decide)) rfl rfl
 ·intro a' w' hF' hb hd
  have e17:=sHe hd 0 17 rfl rfl rfl rfl
  obtain⟨v18_0,e18,h18_1⟩:=sH hd 1 18 rfl rfl rfl rfl
  exact dc0 (r_call Tryz.func52 en52.1 en52.2 (map2 e17 e18)) (rMul_any _ _ _ _ (max (((k+12)+2)+((k+12)+3)) 2) _ ((st.f 0 rfl).below hb) h18_1 ((rlim_mul (rlim_mul (sof_lim2 hl) (RLim.up (rlim_mk2 (limz_64 (by decide) (by decide)) (limz_64 (by decide) (by decide))) 2 (by decide))) (epiQ_lim (sof_lim2 hl))).up _ (by omega)) ((RLim.up (rlim_mk2 (limz_64 (by decide) (by decide)) (limz_64 (by decide) (by decide))) 2 (by decide)).up _ (by omega)) (by omega)) rfl rfl
 ·intro a' w' hF' hb hd
  obtain⟨v16_0,e16,h16_1⟩:=sH hd 0 16 rfl rfl rfl rfl
  obtain⟨v19_0,e19,h19_1⟩:=sH hd 1 19 rfl rfl rfl rfl
  exact dc0 (r_call Tryz.func52 en52.1 en52.2 (map2 e16 e19)) (rMul_any _ _ _ _ (max ((k+40)+2) ((((k+12)+2)+((k+12)+3))+2)) _ h16_1 h19_1 ((rlim_mul (motQ_lim hl) (RLim.up (rlim_mk2 (limz_64 (by decide) (by decide)) (limz_64 (by decide) (by decide))) 2 (by decide))).up _ (by omega)) ((rlim_mul (rlim_mul (rlim_mul (sof_lim2 hl) (RLim.up (rlim_mk2 (limz_64 (by decide) (by decide)) (limz_64 (by decide) (by decide))) 2 (by decide))) (epiQ_lim (sof_lim2 hl))) (RLim.up (rlim_mk2 (limz_64 (by decide) (by decide)) (limz_64 (by decide) (by decide))) 2 (by decide))).up _ (by omega)) (by omega)) rfl rfl
 ·intro a' w' hF' hb hd
  exact dc0 (r_call Tryz.func136 en136.1 en136.2 map0) (mYear_any _) rfl rfl
 ·intro a' w' hF' hb hd
  obtain⟨v20_0,e20,h20_1⟩:=sH hd 0 20 rfl rfl rfl rfl
  obtain⟨v21_0,e21,h21_1⟩:=sH hd 1 21 rfl rfl rfl rfl
  exact dc0 (r_call Tryz.func52 en52.1 en52.2 (map2 e20 e21)) (rMul_any _ _ _ (pyr) (max (((k+40)+2)+((((k+12)+2)+((k+12)+3))+2)) 2) _ h20_1 h21_1 ((rlim_mul (rlim_mul (motQ_lim hl) (RLim.up (rlim_mk2 (limz_64 (by decide) (by decide)) (limz_64 (by decide) (by decide))) 2 (by decide))) (rlim_mul (rlim_mul (rlim_mul (sof_lim2 hl) (RLim.up (rlim_mk2 (limz_64 (by decide) (by decide)) (limz_64 (by decide) (by decide))) 2 (by decide))) (epiQ_lim (sof_lim2 hl))) (RLim.up (rlim_mk2 (limz_64 (by decide) (by decide)) (limz_64 (by decide) (by decide))) 2 (by decide)))).up _ (by omega)) (pyr_lim.up _ (by omega)) (by omega)) rfl rfl
 intro a w14 hF bb hall hne
 replace st:=st.to bb
 obtain⟨vv15,e22,hh16⟩:=sS hall 9 22 rfl rfl
 replace st:=st.add hh16 (Rq.cl _)
 clear hh16
 clear hall hne bb
 obtain⟨b17,ad17,n17,c17,ae17,m17,d17,rfl⟩:=Rq.form (st.f 0 rfl)
 replace hF:=hF.add e22
 clear e22
 refine S.sto st hF 2 rfl (hF.at 6 rfl) (hF.at 0 rfl) ty_Rat rfl rfl rfl rfl fun w18 a st hF=>?_
 refine E.nil ?_
 refine wp_ret ?_
 refine S.ret Tryz.results88 st hF (hF.at 6 rfl) 2 rfl ty_Rat rfl hF.dfr ?_
 have bel:=st.bel
 exact⟨_,rfl,(st.f 0 rfl),bel⟩
theorem days30_any (v1:Value) (qt:Rat) (k:Nat) (w:World) (h1:Rq w v1 (qt*(((1:Int):Rat)/((30:Int):Rat)))) (hl:RLim (qt*(((1:Int):Rat)/((30:Int):Rat))) k) (hk:k≤10000) (h0:0≤qt) (h3:qt<((360:Int):Rat)):Calls Tryz.prog 142 #[v1] w (ValPost w (.tuple #[.int .i64 (prt qt 12),.bool true])):=by
 have h:=cDays_any v1 _ k w h1 hl hk
 rwa[(sm30 h0 h3).1,(sm30 h0 h3).2] at h
theorem rerising_any (v1:Value) (qt:Rat) (k:Nat) (w:World) (h1:Rq w v1 qt) (hl:RLim qt k) (hk:k≤300) (h0:0≤qt) (h3:qt<((360:Int):Rat)):
 Calls Tryz.prog 86 #[v1] w (RqPost w (risQ qt)):=by
 have hpt:=prt_bd (x:=qt) (n:=12) (by omega) h0 h3
 have st:=St.start w
 refine E.enter (nt:=19) (L:=[(0,v1)]) Tryz.func86 rfl rfl rfl (args_cons (i:=0) rfl args_nil) ?_
 intro a hF
 refine wp_seq ?_
 refine E.seq ?_
 obtain⟨b2,ad2,n2,c2,ae2,m2,d2,rfl⟩:=Rq.form h1
 refine S.box st hF (hF.at 0 rfl) rfl rfl fun g1 w1 a st hF=>?_
 refine S.alloc st hF ty_Rat rfl rfl fun g2 w3 a st hF=>?_
 refine E.nil ?_
 refine wp_seq ?_
 refine E.seq ?_
 refine E.opv hF (r_build (pair6 ev_c ev_c ev_c ev_c ev_c ev_c) (bd_A6_012345 _ _ _ _ _ _ _)) rfl rfl rfl rfl fun a hF=>?_
 refine S.new st hF 0 rfl ty_A6 rfl rfl rfl rfl rfl fun g3 w4 a st hF=>?_
 refine E.nil ?_
 refine wp_seq ?_
 refine E.drawn 9 mixed hF [8,9,10,11,7,12,13,4,5] [(fun _ v=>v= .agg #[.bool b2,.slice ad2 n2 c2,.slice ae2 m2 d2]),(fun w v=>Rq w v (((1:Int):Rat)/((30:Int):Rat))),(fun w v=>Rq w v ((qt)*(((1:Int):Rat)/((30:Int):Rat)))),(fun _ v=>v= .tuple #[.int .i64 (prt qt 12),.bool true]),(fun _ v=>v= .tuple #[.int .i64 (prt qt 12),.bool true]),(fun _ v=>v= .int .i64 (prt qt 12)),(fun _ v=>v= .bool true),(fun _ v=>v= .int .i64 (prt qt 12)),(fun _ v=>v= .bool true)] [] (by decide+kernel) (by decide+kernel) rfl rfl rfl ⟨(Mb.eq _),(fun _ _ _ h hb=>h.below hb),(fun _ _ _ h hb=>h.below hb),(Mb.eq _),(Mb.eq _),(Mb.eq _),(Mb.eq _),(Mb.eq _),(Mb.eq _),trivial⟩ trivial ⟨?_,?_,?_,?_,?_,?_,?_,?_,?_,trivial⟩ ?_
 ·intro a' w' hF' hb hd
  exact dv0 (r_load (hF'.at 3 rfl) (ld_all ty_Rat ((st.bk 2 rfl).below hb) rfl)) rfl rfl rfl
 ·intro a' w' hF' hb hd
  exact dc0 (r_call Tryz.func38 en38.1 en38.2 (map2 ev_c ev_c)) (rOf2_any (1) (30) _ (by decide) (by decide) (by decide) (by decide)) rfl rfl
 ·intro a' w' hF' hb hd
  have e8:=sHe hd 0 8 rfl rfl rfl rfl
  obtain⟨v9_0,e9,h9_1⟩:=sH hd 1 9 rfl rfl rfl rfl
  exact dc0 (r_call Tryz.func52 en52.1 en52.2 (map2 e8 e9)) (rMul_any _ _ (qt) _ (max k 2) _ (h1.below (below_to st.bel hb)) h9_1 (hl.up _ (by omega)) ((RLim.up (rlim_mk2 (limz_64 (by decide) (by decide)) (limz_64 (by decide) (by decide))) 2 (by decide)).up _ (by omega)) (by omega)) rfl rfl
 ·intro a' w' hF' hb hd
  obtain⟨v10_0,e10,h10_1⟩:=sH hd 0 10 rfl rfl rfl rfl
  exact dcx0 (r_call Tryz.func142 en142.1 en142.2 (map1 e10)) (days30_any _ qt (k+2) _ h10_1 (rlim_mul hl (RLim.up (rlim_mk2 (limz_64 (by decide) (by decide)) (limz_64 (by decide) (by decide))) 2 (by decide))) (by omega) h0 h3) (fun _=>rfl) rfl rfl
 ·intro a' w' hF' hb hd
  have e11:=sHe hd 0 11 rfl rfl rfl rfl
  exact dv0 (r_move e11) rfl rfl rfl
 ·intro a' w' hF' hb hd
  have e7:=sHe hd 0 7 rfl rfl rfl rfl
  exact dv0 (r_extract (v:= .int .i64 (prt qt 12)) e7 rfl) rfl rfl rfl
 ·intro a' w' hF' hb hd
  have e7:=sHe hd 0 7 rfl rfl rfl rfl
  exact dv0 (r_extract (v:= .bool true) e7 rfl) rfl rfl rfl
 ·intro a' w' hF' hb hd
  have e12:=sHe hd 0 12 rfl rfl rfl rfl
  exact dv0 (r_assign e12) rfl rfl rfl
 ·intro a' w' hF' hb hd
  have e13:=sHe hd 0 13 rfl rfl rfl rfl
  exact dv0 (r_assign e13) rfl rfl rfl
 intro a w5 hF bb hall hne
 replace st:=st.to bb
 have e4:=sSe hall 7 4 rfl rfl
 clear hall hne bb
 replace hF:=hF.add e4
 clear e4
 refine E.nil ?_
 refine wp_seq ?_
 refine E.seq ?_
 refine E.opv hF (r_move (hF.at 0 rfl)) rfl rfl rfl rfl fun a hF=>?_
 refine E.opv hF (r_bin (hF.at 0 rfl) ev_c eg_scalar (id_remn (a:=prt qt 12) (b:=6) (by omega) (by omega))) rfl rfl rfl rfl fun a hF=>?_
 refine E.opv hF (r_index (hF.at 3 rfl) (hF.at 0 rfl) (ix_A6 (by omega) (by omega))) rfl rfl rfl rfl fun a hF=>?_
 refine E.opv hF (r_load (hF.at 0 rfl) (ldb_i64 (v:= .int .i64 (risT (prt qt 12))) (st.bk 0 rfl) risT_ix)) rfl rfl rfl rfl fun a hF=>?_
 refine S.call st hF (r_call Tryz.func38 en38.1 en38.2 (map2 (hF.at 0 rfl) ev_c)) (rOf2_any (risT (prt qt 12)) (1800) _ (by have:=risT_bd (prt qt 12);omega) (by have:=risT_bd (prt qt 12);omega) (by decide) (by decide)) (fun _ _ h=>h) Rq.cl rfl rfl rfl rfl fun vv7 w6 a st hF=>?_
 obtain⟨b9,ad9,n9,c9,ae9,m9,d9,rfl⟩:=Rq.form (st.f 0 rfl)
 refine S.sto st hF 1 rfl (hF.at 8 rfl) (hF.at 0 rfl) ty_Rat rfl rfl rfl rfl fun w10 a st hF=>?_
 refine E.nil ?_
 refine wp_ret ?_
 refine S.ret Tryz.results86 st hF (hF.at 8 rfl) 1 rfl ty_Rat rfl hF.dfr ?_
 have bel:=st.bel
 exact⟨_,rfl,(st.f 0 rfl),bel⟩
theorem redifference_any (v1:Value) (qt:Rat) (xa xb xc xd:Int) (k:Nat) (w:World) (hT:TabD w) (h1:Rq w v1 qt) (hl:RLim qt k) (hk:k≤300) (hxa0: -9223372036854775808≤xa) (hxa1:xa≤9223372036854775807) (hxb0: -9223372036854775808≤xb) (hxb1:xb≤9223372036854775807):
 Calls Tryz.prog 89 #[v1,.agg #[.int .i64 xa,.int .i64 xb,.int .i64 xc,.int .i64 xd]] w (RqPost w (diffQ qt (((xa:Int):Rat)/((xb:Int):Rat)))):=by
 have st:=St.start w
 refine E.enter (nt:=28) (L:=[(0,v1),(1,.agg #[.int .i64 xa,.int .i64 xb,.int .i64 xc,.int .i64 xd])]) Tryz.func89 rfl rfl rfl (args_cons (i:=0) rfl (args_cons (i:=1) rfl args_nil)) ?_
 intro a hF
 refine wp_seq ?_
 refine E.seq ?_
 obtain⟨b2,ad2,n2,c2,ae2,m2,d2,rfl⟩:=Rq.form h1
 refine S.box st hF (hF.at 0 rfl) rfl rfl fun g2 w1 a st hF=>?_
 refine S.box st hF (hF.at 2 rfl) rfl rfl fun g3 w3 a st hF=>?_
 refine S.alloc st hF ty_Rat rfl rfl fun g4 w4 a st hF=>?_
 refine E.nil ?_
 refine wp_seq ?_
 refine E.seq ?_
 refine E.opv hF (r_load (hF.at 2 rfl) (ld_all ty_Rat (st.bk 2 rfl) rfl)) rfl rfl rfl rfl fun a hF=>?_
 refine S.call st hF (r_call Tryz.func135 en135.1 en135.2 (map1 (hF.at 0 rfl))) (sof_any _ (qt) k _ (hT.below st.bel) (h1.below st.bel) hl (by omega)) (fun _ _ h=>h) Rq.cl rfl rfl rfl rfl fun vv6 w5 a st hF=>?_
 obtain⟨b8,ad8,n8,c8,ae8,m8,d8,rfl⟩:=Rq.form (st.f 0 rfl)
 refine S.call st hF (r_call Tryz.func38 en38.1 en38.2 (map2 ev_c ev_c)) (rOf2_any (1397) (3438) _ (by decide) (by decide) (by decide) (by decide)) (fun _ _ h=>h) Rq.cl rfl rfl rfl rfl fun vv10 w9 a st hF=>?_
 obtain⟨b12,ad12,n12,c12,ae12,m12,d12,rfl⟩:=Rq.form (st.f 0 rfl)
 refine S.call st hF (r_call Tryz.func52 en52.1 en52.2 (map2 (hF.at 1 rfl) (hF.at 0 rfl))) (rMul_any _ _ (sof (qt)) _ (max (k+12) 2) _ (st.f 1 rfl) (st.f 0 rfl) ((sof_lim2 hl).up _ (by omega)) ((RLim.up (rlim_mk2 (limz_64 (by decide) (by decide)) (limz_64 (by decide) (by decide))) 2 (by decide)).up _ (by omega)) (by omega)) (fun _ _ h=>h) Rq.cl rfl rfl rfl rfl fun vv14 w13 a st hF=>?_
 obtain⟨b16,ad16,n16,c16,ae16,m16,d16,rfl⟩:=Rq.form (st.f 0 rfl)
 refine S.new st hF 0 rfl ty_Rat rfl rfl rfl rfl rfl fun g5 w17 a st hF=>?_
 refine E.nil ?_
 refine wp_seq ?_
 refine E.seq ?_
 refine E.opv hF (r_load (hF.at 6 rfl) (ld_all ty_Plc (st.bk 2 rfl) rfl)) rfl rfl rfl rfl fun a hF=>?_
 refine S.call st hF (r_call Tryz.func144 en144.1 en144.2 (map1 (hF.at 0 rfl))) (pLatitude_any xa xb xc xd _ hxa0 hxa1 hxb0 hxb1) (fun _ _ h=>h) Rq.cl rfl rfl rfl rfl fun vv19 w18 a st hF=>?_
 obtain⟨b21,ad21,n21,c21,ae21,m21,d21,rfl⟩:=Rq.form (st.f 0 rfl)
 refine S.new st hF 0 rfl ty_Rat rfl rfl rfl rfl rfl fun g6 w22 a st hF=>?_
 refine E.nil ?_
 refine wp_seq ?_
 refine E.drawn 8 mixed hF [14,15,16,17,18,19,20,7] [(fun _ v=>v= .agg #[.bool b16,.slice ad16 n16 c16,.slice ae16 m16 d16]),(fun _ v=>v= .agg #[.bool b21,.slice ad21 n21 c21,.slice ae21 m21 d21]),(fun w v=>Rq w v (sof (((xa:Int):Rat)/((xb:Int):Rat)))),(fun w v=>Rq w v (((sof (qt))*(((1397:Int):Rat)/((3438:Int):Rat)))*(sof (((xa:Int):Rat)/((xb:Int):Rat))))),(fun _ v=>v= .agg #[.bool b21,.slice ad21 n21 c21,.slice ae21 m21 d21]),(fun w v=>Rq w v (sof ((((xa:Int):Rat)/((xb:Int):Rat))+((90:Int):Rat)))),(fun w v=>Rq w v ((((sof (qt))*(((1397:Int):Rat)/((3438:Int):Rat)))*(sof (((xa:Int):Rat)/((xb:Int):Rat))))/(sof ((((xa:Int):Rat)/((xb:Int):Rat))+((90:Int):Rat))))),(fun w v=>∃g,v= .pointer (some ⟨g,0,none⟩)∧w22.heap.size≤g∧Own w g [.bool false,.slice none 0 0,.slice none 0 0])] [7] (by decide+kernel) (by decide+kernel) rfl rfl rfl ⟨(Mb.eq _),(Mb.eq _),(fun _ _ _ h hb=>h.below hb),(fun _ _ _ h hb=>h.below hb),(Mb.eq _),(fun _ _ _ h hb=>h.below hb),(fun _ _ _ h hb=>h.below hb),(fun _ _ _ ⟨g,e,l,o⟩ hb=>⟨g,e,l,o.below hb⟩),trivial⟩ ⟨fun _ _ ⟨g,e,_,o⟩=>⟨g,e,o.lt⟩,trivial⟩ ⟨?_,?_,?_,?_,?_,?_,?_,?_,trivial⟩ ?_
 ·intro a' w' hF' hb hd
  exact dv0 (r_load (hF'.at 3 rfl) (ld_all ty_Rat ((st.bk 1 rfl).below hb) rfl)) rfl rfl rfl
 ·intro a' w' hF' hb hd
  exact dv0 (r_load (hF'.at 0 rfl) (ld_all ty_Rat ((st.bk 0 rfl).below hb) rfl)) rfl rfl rfl
 ·intro a' w' hF' hb hd
  have e15:=sHe hd 0 15 rfl rfl rfl rfl
  exact dc0 (r_call Tryz.func135 en135.1 en135.2 (map1 e15)) (sof_any _ _ 2 _ (hT.below (below_to st.bel hb)) ((st.f 0 rfl).below hb) (lim64q (n:=xa) (d:=xb) hxa0 hxa1 hxb0 hxb1) (by omega)) rfl rfl
 ·intro a' w' hF' hb hd
  have e14:=sHe hd 0 14 rfl rfl rfl rfl
  obtain⟨v16_0,e16,h16_1⟩:=sH hd 1 16 rfl rfl rfl rfl
  exact dc0 (r_call Tryz.func52 en52.1 en52.2 (map2 e14 e16)) (rMul_any _ _ _ _ (max ((k+12)+2) (2+12)) _ ((st.f 1 rfl).below hb) h16_1 ((rlim_mul (sof_lim2 hl) (RLim.up (rlim_mk2 (limz_64 (by decide) (by decide)) (limz_64 (by decide) (by decide))) 2 (by decide))).up _ (by omega)) ((sof_lim2 (lim64q (n:=xa) (d:=xb) hxa0 hxa1 hxb0 hxb1)).up _ (by omega)) (by omega)) rfl rfl
 ·intro a' w' hF' hb hd
  exact dv0 (r_load (hF'.at 0 rfl) (ld_all ty_Rat ((st.bk 0 rfl).below hb) rfl)) rfl rfl rfl
 ·intro a' w' hF' hb hd
  have e18:=sHe hd 0 18 rfl rfl rfl rfl
  exact dc0 (r_call Tryz.func145 en145.1 en145.2 (map1 e18)) (scos_any _ _ 2 _ (hT.below (below_to st.bel hb)) ((st.f 0 rfl).below hb) (lim64q (n:=xa) (d:=xb) hxa0 hxa1 hxb0 hxb1) (by omega)) rfl rfl
 ·intro a' w' hF' hb hd
  obtain⟨v17_0,e17,h17_1⟩:=sH hd 0 17 rfl rfl rfl rfl
  obtain⟨v19_0,e19,h19_1⟩:=sH hd 1 19 rfl rfl rfl rfl
  exact dc0 (r_call Tryz.func40 en40.1 en40.2 (map2 e17 e19)) (rDiv_any _ _ _ _ (max (((k+12)+2)+(2+12)) (2+2+1+12)) _ h17_1 h19_1 ((rlim_mul (rlim_mul (sof_lim2 hl) (RLim.up (rlim_mk2 (limz_64 (by decide) (by decide)) (limz_64 (by decide) (by decide))) 2 (by decide))) (sof_lim2 (lim64q (n:=xa) (d:=xb) hxa0 hxa1 hxb0 hxb1))).up _ (by omega)) ((sof_lim2 (rlim_add (lim64q (n:=xa) (d:=xb) hxa0 hxa1 hxb0 hxb1) (lim64 (n:=90) (by decide) (by decide)))).up _ (by omega)) (by omega)) rfl rfl
 ·intro a' w' hF' hb hd
  exact da0 ty_Rat rfl hb.size rfl
 intro a w23 hF bb hall hne
 have s0:=st
 replace st:=st.to bb
 obtain⟨vv24,e20,hh25⟩:=sS hall 6 20 rfl rfl
 replace st:=st.add hh25 (Rq.cl _)
 clear hh25
 obtain⟨_,e7,g7,rfl,ge7,o7⟩:=sS hall 7 7 rfl rfl
 replace st:=st.push o7.blk (Nat.le_trans s0.bel.size ge7) (s0.ne ge7)
 clear o7
 clear hall hne bb s0
 obtain⟨b26,ad26,n26,c26,ae26,m26,d26,rfl⟩:=Rq.form (st.f 0 rfl)
 replace hF:=hF.add e20
 clear e20
 replace hF:=hF.add e7
 clear e7
 refine S.sto st hF 0 rfl (hF.at 0 rfl) (hF.at 1 rfl) ty_Rat rfl rfl rfl rfl fun w27 a st hF=>?_
 refine E.nil ?_
 refine wp_seq ?_
 refine E.drawn 7 mixed hF [21,22,23,24,25,26,27] [(fun _ v=>v= .agg #[.bool b26,.slice ad26 n26 c26,.slice ae26 m26 d26]),(fun w v=>Rq w v (-((((sof (qt))*(((1397:Int):Rat)/((3438:Int):Rat)))*(sof (((xa:Int):Rat)/((xb:Int):Rat))))/(sof ((((xa:Int):Rat)/((xb:Int):Rat))+((90:Int):Rat)))))),(fun _ v=>v= .agg #[.bool b16,.slice ad16 n16 c16,.slice ae16 m16 d16]),(fun w v=>Rq w v (arcv ((sof (qt))*(((1397:Int):Rat)/((3438:Int):Rat))))),(fun w v=>Rq w v (sof ((arcv ((sof (qt))*(((1397:Int):Rat)/((3438:Int):Rat))))+((90:Int):Rat)))),(fun w v=>Rq w v ((-((((sof (qt))*(((1397:Int):Rat)/((3438:Int):Rat)))*(sof (((xa:Int):Rat)/((xb:Int):Rat))))/(sof ((((xa:Int):Rat)/((xb:Int):Rat))+((90:Int):Rat)))))/(sof ((arcv ((sof (qt))*(((1397:Int):Rat)/((3438:Int):Rat))))+((90:Int):Rat))))),(fun w v=>Rq w v (arcv ((-((((sof (qt))*(((1397:Int):Rat)/((3438:Int):Rat)))*(sof (((xa:Int):Rat)/((xb:Int):Rat))))/(sof ((((xa:Int):Rat)/((xb:Int):Rat))+((90:Int):Rat)))))/(sof ((arcv ((sof (qt))*(((1397:Int):Rat)/((3438:Int):Rat))))+((90:Int):Rat))))))] [] (by decide+kernel) (by decide+kernel) rfl rfl rfl ⟨(Mb.eq _),(fun _ _ _ h hb=>h.below hb),(Mb.eq _),(fun _ _ _ h hb=>h.below hb),(fun _ _ _ h hb=>h.below hb),(fun _ _ _ h hb=>h.below hb),(fun _ _ _ h hb=>h.below hb),trivial⟩ trivial ⟨?_,?_,?_,?_,?_,?_,?_,trivial⟩ ?_
 ·intro a' w' hF' hb hd
  exact dv0 (r_load (hF'.at 0 rfl) (ld_all ty_Rat ((st.bk 0 rfl).below hb) rfl)) rfl rfl rfl
 ·intro a' w' hF' hb hd
  have e21:=sHe hd 0 21 rfl rfl rfl rfl
  exact dc0 (r_call Tryz.func100 en100.1 en100.2 (map1 e21)) (rOpp_any _ _ _ ((st.f 0 rfl).below hb)) rfl rfl
 ·intro a' w' hF' hb hd
  exact dv0 (r_load (hF'.at 5 rfl) (ld_all ty_Rat ((st.bk 2 rfl).below hb) rfl)) rfl rfl rfl
 ·intro a' w' hF' hb hd
  have e23:=sHe hd 0 23 rfl rfl rfl rfl
  exact dc0 (r_call Tryz.func146 en146.1 en146.2 (map1 e23)) (sarc_any _ _ ((k+12)+2) _ (hT.below (below_to st.bel hb)) ((st.f 2 rfl).below hb) (rlim_mul (sof_lim2 hl) (RLim.up (rlim_mk2 (limz_64 (by decide) (by decide)) (limz_64 (by decide) (by decide))) 2 (by decide))) (by omega)) rfl rfl
 ·intro a' w' hF' hb hd
  obtain⟨v24_0,e24,h24_1⟩:=sH hd 0 24 rfl rfl rfl rfl
  exact dc0 (r_call Tryz.func145 en145.1 en145.2 (map1 e24)) (scos_any _ _ (((k+12)+2)+20) _ (hT.below (below_to st.bel hb)) h24_1 (arcv_lim (rlim_mul (sof_lim2 hl) (RLim.up (rlim_mk2 (limz_64 (by decide) (by decide)) (limz_64 (by decide) (by decide))) 2 (by decide)))) (by omega)) rfl rfl
 ·intro a' w' hF' hb hd
  obtain⟨v22_0,e22,h22_1⟩:=sH hd 0 22 rfl rfl rfl rfl
  obtain⟨v25_0,e25,h25_1⟩:=sH hd 1 25 rfl rfl rfl rfl
  exact dc0 (r_call Tryz.func40 en40.1 en40.2 (map2 e22 e25)) (rDiv_any _ _ _ _ (max ((((k+12)+2)+(2+12))+(2+2+1+12)) ((((k+12)+2)+20)+2+1+12)) _ h22_1 h25_1 ((rlim_neg (rlim_div (rlim_mul (rlim_mul (sof_lim2 hl) (RLim.up (rlim_mk2 (limz_64 (by decide) (by decide)) (limz_64 (by decide) (by decide))) 2 (by decide))) (sof_lim2 (lim64q (n:=xa) (d:=xb) hxa0 hxa1 hxb0 hxb1))) (sof_lim2 (rlim_add (lim64q (n:=xa) (d:=xb) hxa0 hxa1 hxb0 hxb1) (lim64 (n:=90) (by decide) (by decide)))))).up _ (by omega)) ((sof_lim2 (rlim_add (arcv_lim (rlim_mul (sof_lim2 hl) (RLim.up (rlim_mk2 (limz_64 (by decide) (by decide)) (limz_64 (by decide) (by decide))) 2 (by decide)))) (lim64 (n:=90) (by decide) (by decide)))).up _ (by omega)) (by omega)) rfl rfl
 ·intro a' w' hF' hb hd
  obtain⟨v26_0,e26,h26_1⟩:=sH hd 0 26 rfl rfl rfl rfl
  exact dc0 (r_call Tryz.func146 en146.1 en146.2 (map1 e26)) (sarc_any _ _ (((((k+12)+2)+(2+12))+(2+2+1+12))+((((k+12)+2)+20)+2+1+12)) _ (hT.below (below_to st.bel hb)) h26_1 (rlim_div (rlim_neg (rlim_div (rlim_mul (rlim_mul (sof_lim2 hl) (RLim.up (rlim_mk2 (limz_64 (by decide) (by decide)) (limz_64 (by decide) (by decide))) 2 (by decide))) (sof_lim2 (lim64q (n:=xa) (d:=xb) hxa0 hxa1 hxb0 hxb1))) (sof_lim2 (rlim_add (lim64q (n:=xa) (d:=xb) hxa0 hxa1 hxb0 hxb1) (lim64 (n:=90) (by decide) (by decide)))))) (sof_lim2 (rlim_add (arcv_lim (rlim_mul (sof_lim2 hl) (RLim.up (rlim_mk2 (limz_64 (by decide) (by decide)) (limz_64 (by decide) (by decide))) 2 (by decide)))) (lim64 (n:=90) (by decide) (by decide))))) (by omega)) rfl rfl
 intro a w28 hF bb hall hne
 replace st:=st.to bb
 obtain⟨vv29,e27,hh30⟩:=sS hall 6 27 rfl rfl
 replace st:=st.add hh30 (Rq.cl _)
 clear hh30
 clear hall hne bb
 obtain⟨b31,ad31,n31,c31,ae31,m31,d31,rfl⟩:=Rq.form (st.f 0 rfl)
 replace hF:=hF.add e27
 clear e27
 refine S.sto st hF 3 rfl (hF.at 11 rfl) (hF.at 0 rfl) ty_Rat rfl rfl rfl rfl fun w32 a st hF=>?_
 refine E.nil ?_
 refine wp_ret ?_
 refine S.ret Tryz.results89 st hF (hF.at 11 rfl) 3 rfl ty_Rat rfl hF.dfr ?_
 have bel:=st.bel
 exact⟨_,rfl,Rq.castM (st.f 0 rfl) (diffQ_eq _ _),bel⟩
theorem reMotionV_any (v1:Value) (qt:Rat) (k:Nat) (w:World) (hT:TabD w) (h1:Rq w v1 qt) (hl:RLim qt k) (hk:k≤20):
 Calls Tryz.prog 18 #[v1] w (RqPost w (motV qt)):=by
 have st:=St.start w
 refine E.enter (nt:=6) (L:=[(0,v1)]) Tryz.func18 rfl rfl rfl (args_cons (i:=0) rfl args_nil) ?_
 intro a hF
 refine wp_seq ?_
 refine E.seq ?_
 obtain⟨b2,ad2,n2,c2,ae2,m2,d2,rfl⟩:=Rq.form h1
 refine S.box st hF (hF.at 0 rfl) rfl rfl fun g1 w1 a st hF=>?_
 refine S.alloc st hF ty_Rat rfl rfl fun g2 w3 a st hF=>?_
 refine E.nil ?_
 refine wp_seq ?_
 refine E.seq ?_
 refine E.opv hF (r_load (hF.at 1 rfl) (ld_all ty_Rat (st.bk 1 rfl) rfl)) rfl rfl rfl rfl fun a hF=>?_
 refine S.call st hF (r_call Tryz.func79 en79.1 en79.2 (map1 (hF.at 0 rfl))) (reanomaly_any _ (qt) k _ (h1.below st.bel) hl (by omega)) (fun _ _ h=>h) Rq.cl rfl rfl rfl rfl fun vv5 w4 a st hF=>?_
 obtain⟨b7,ad7,n7,c7,ae7,m7,d7,rfl⟩:=Rq.form (st.f 0 rfl)
 refine S.call st hF (r_call Tryz.func78 en78.1 en78.2 (map1 (hF.at 0 rfl))) (remotion_any _ _ (k+2+5) _ (hT.below st.bel) (st.f 0 rfl) (mof_lim hl pay_lim) (by omega)) (fun _ _ h=>h) Rq.cl rfl rfl rfl rfl fun vv9 w8 a st hF=>?_
 obtain⟨b11,ad11,n11,c11,ae11,m11,d11,rfl⟩:=Rq.form (st.f 0 rfl)
 refine S.sto st hF 0 rfl (hF.at 3 rfl) (hF.at 0 rfl) ty_Rat rfl rfl rfl rfl fun w12 a st hF=>?_
 refine E.nil ?_
 refine wp_ret ?_
 refine S.ret Tryz.results18 st hF (hF.at 3 rfl) 0 rfl ty_Rat rfl hF.dfr ?_
 have bel:=st.bel
 exact⟨_,rfl,Rq.castM (st.f 0 rfl) (motV_Q _).symm,bel⟩
theorem reEquationV_any (v1:Value) (qt:Rat) (k:Nat) (w:World) (hT:TabD w) (h1:Rq w v1 qt) (hl:RLim qt k) (hk:k≤20):
 Calls Tryz.prog 22 #[v1] w (RqPost w (eqnV qt)):=by
 have st:=St.start w
 refine E.enter (nt:=6) (L:=[(0,v1)]) Tryz.func22 rfl rfl rfl (args_cons (i:=0) rfl args_nil) ?_
 intro a hF
 refine wp_seq ?_
 refine E.seq ?_
 obtain⟨b2,ad2,n2,c2,ae2,m2,d2,rfl⟩:=Rq.form h1
 refine S.box st hF (hF.at 0 rfl) rfl rfl fun g1 w1 a st hF=>?_
 refine S.alloc st hF ty_Rat rfl rfl fun g2 w3 a st hF=>?_
 refine E.nil ?_
 refine wp_seq ?_
 refine E.seq ?_
 refine E.opv hF (r_load (hF.at 1 rfl) (ld_all ty_Rat (st.bk 1 rfl) rfl)) rfl rfl rfl rfl fun a hF=>?_
 refine S.call st hF (r_call Tryz.func79 en79.1 en79.2 (map1 (hF.at 0 rfl))) (reanomaly_any _ (qt) k _ (h1.below st.bel) hl (by omega)) (fun _ _ h=>h) Rq.cl rfl rfl rfl rfl fun vv5 w4 a st hF=>?_
 obtain⟨b7,ad7,n7,c7,ae7,m7,d7,rfl⟩:=Rq.form (st.f 0 rfl)
 refine S.call st hF (r_call Tryz.func88 en88.1 en88.2 (map1 (hF.at 0 rfl))) (reequation_any _ _ (k+2+5) _ (hT.below st.bel) (st.f 0 rfl) (mof_lim hl pay_lim) (by omega)) (fun _ _ h=>h) Rq.cl rfl rfl rfl rfl fun vv9 w8 a st hF=>?_
 obtain⟨b11,ad11,n11,c11,ae11,m11,d11,rfl⟩:=Rq.form (st.f 0 rfl)
 refine S.sto st hF 0 rfl (hF.at 3 rfl) (hF.at 0 rfl) ty_Rat rfl rfl rfl rfl fun w12 a st hF=>?_
 refine E.nil ?_
 refine wp_ret ?_
 refine S.ret Tryz.results22 st hF (hF.at 3 rfl) 0 rfl ty_Rat rfl hF.dfr ?_
 have bel:=st.bel
 exact⟨_,rfl,Rq.castM (st.f 0 rfl) (eqnV_Q _).symm,bel⟩
theorem reRisingV_any (v1:Value) (qt:Rat) (k:Nat) (w:World) (hT:TabD w) (h1:Rq w v1 qt) (hl:RLim qt k) (hk:k≤20):
 Calls Tryz.prog 20 #[v1] w (RqPost w (risV qt)):=by
 have st:=St.start w
 refine E.enter (nt:=6) (L:=[(0,v1)]) Tryz.func20 rfl rfl rfl (args_cons (i:=0) rfl args_nil) ?_
 intro a hF
 refine wp_seq ?_
 refine E.seq ?_
 obtain⟨b2,ad2,n2,c2,ae2,m2,d2,rfl⟩:=Rq.form h1
 refine S.box st hF (hF.at 0 rfl) rfl rfl fun g1 w1 a st hF=>?_
 refine S.alloc st hF ty_Rat rfl rfl fun g2 w3 a st hF=>?_
 refine E.nil ?_
 refine wp_seq ?_
 refine E.seq ?_
 refine E.opv hF (r_load (hF.at 1 rfl) (ld_all ty_Rat (st.bk 1 rfl) rfl)) rfl rfl rfl rfl fun a hF=>?_
 refine S.call st hF (r_call Tryz.func16 en16.1 en16.2 (map1 (hF.at 0 rfl))) (reTropical_any _ (qt) k _ (hT.below st.bel) (h1.below st.bel) hl (by omega)) (fun _ _ h=>h) Rq.cl rfl rfl rfl rfl fun vv5 w4 a st hF=>?_
 obtain⟨b7,ad7,n7,c7,ae7,m7,d7,rfl⟩:=Rq.form (st.f 0 rfl)
 refine S.call st hF (r_call Tryz.func86 en86.1 en86.2 (map1 (hF.at 0 rfl))) (rerising_any _ _ (5*k+180) _ (st.f 0 rfl) (trop_lim hl) (by omega) (rmod_low c360_pos) (rmod_high c360_pos)) (fun _ _ h=>h) Rq.cl rfl rfl rfl rfl fun vv9 w8 a st hF=>?_
 obtain⟨b11,ad11,n11,c11,ae11,m11,d11,rfl⟩:=Rq.form (st.f 0 rfl)
 refine S.sto st hF 0 rfl (hF.at 3 rfl) (hF.at 0 rfl) ty_Rat rfl rfl rfl rfl fun w12 a st hF=>?_
 refine E.nil ?_
 refine wp_ret ?_
 refine S.ret Tryz.results20 st hF (hF.at 3 rfl) 0 rfl ty_Rat rfl hF.dfr ?_
 have bel:=st.bel
 exact⟨_,rfl,Rq.castM (st.f 0 rfl) (risV_Q _).symm,bel⟩
theorem reDifference_any (v1:Value) (qt:Rat) (xa xb xc xd:Int) (k:Nat) (w:World) (hT:TabD w) (h1:Rq w v1 qt) (hl:RLim qt k) (hk:k≤20) (hxa0: -9223372036854775808≤xa) (hxa1:xa≤9223372036854775807) (hxb0: -9223372036854775808≤xb) (hxb1:xb≤9223372036854775807):
 Calls Tryz.prog 24 #[v1,.agg #[.int .i64 xa,.int .i64 xb,.int .i64 xc,.int .i64 xd]] w (RqPost w (diffV qt (((xa:Int):Rat)/((xb:Int):Rat)))):=by
 have st:=St.start w
 refine E.enter (nt:=9) (L:=[(0,v1),(1,.agg #[.int .i64 xa,.int .i64 xb,.int .i64 xc,.int .i64 xd])]) Tryz.func24 rfl rfl rfl (args_cons (i:=0) rfl (args_cons (i:=1) rfl args_nil)) ?_
 intro a hF
 refine wp_seq ?_
 refine E.seq ?_
 obtain⟨b2,ad2,n2,c2,ae2,m2,d2,rfl⟩:=Rq.form h1
 refine S.box st hF (hF.at 0 rfl) rfl rfl fun g2 w1 a st hF=>?_
 refine S.box st hF (hF.at 2 rfl) rfl rfl fun g3 w3 a st hF=>?_
 refine S.alloc st hF ty_Rat rfl rfl fun g4 w4 a st hF=>?_
 refine E.nil ?_
 refine wp_seq ?_
 refine E.drawn 4 mixed hF [5,6,7,8] [(fun _ v=>v= .agg #[.bool b2,.slice ad2 n2 c2,.slice ae2 m2 d2]),(fun w v=>Rq w v (tropV (qt))),(fun _ v=>v= .agg #[.int .i64 xa,.int .i64 xb,.int .i64 xc,.int .i64 xd]),(fun w v=>Rq w v (diffQ (tropV (qt)) (((xa:Int):Rat)/((xb:Int):Rat))))] [] (by decide+kernel) (by decide+kernel) rfl rfl rfl ⟨(Mb.eq _),(fun _ _ _ h hb=>h.below hb),(Mb.eq _),(fun _ _ _ h hb=>h.below hb),trivial⟩ trivial ⟨?_,?_,?_,?_,trivial⟩ ?_
 ·intro a' w' hF' hb hd
  exact dv0 (r_load (hF'.at 2 rfl) (ld_all ty_Rat ((st.bk 2 rfl).below hb) rfl)) rfl rfl rfl
 ·intro a' w' hF' hb hd
  have e5:=sHe hd 0 5 rfl rfl rfl rfl
  exact dc0 (r_call Tryz.func16 en16.1 en16.2 (map1 e5)) (reTropical_any _ (qt) k _ (hT.below (below_to st.bel hb)) (h1.below (below_to st.bel hb)) hl (by omega)) rfl rfl
 ·intro a' w' hF' hb hd
  exact dv0 (r_load (hF'.at 1 rfl) (ld_all ty_Plc ((st.bk 1 rfl).below hb) rfl)) rfl rfl rfl
 ·intro a' w' hF' hb hd
  obtain⟨v6_0,e6,h6_1⟩:=sH hd 0 6 rfl rfl rfl rfl
  have e7:=sHe hd 1 7 rfl rfl rfl rfl
  exact dc0 (r_call Tryz.func89 en89.1 en89.2 (map2 e6 e7)) (redifference_any _ _ xa xb xc xd (5*k+180) _ (hT.below (below_to st.bel hb)) h6_1 (trop_lim hl) (by omega) hxa0 hxa1 hxb0 hxb1) rfl rfl
 intro a w5 hF bb hall hne
 replace st:=st.to bb
 obtain⟨vv6,e8,hh7⟩:=sS hall 3 8 rfl rfl
 replace st:=st.add hh7 (Rq.cl _)
 clear hh7
 clear hall hne bb
 obtain⟨b8,ad8,n8,c8,ae8,m8,d8,rfl⟩:=Rq.form (st.f 0 rfl)
 replace hF:=hF.add e8
 clear e8
 refine S.sto st hF 0 rfl (hF.at 1 rfl) (hF.at 0 rfl) ty_Rat rfl rfl rfl rfl fun w9 a st hF=>?_
 refine E.nil ?_
 refine wp_ret ?_
 refine S.ret Tryz.results24 st hF (hF.at 1 rfl) 0 rfl ty_Rat rfl hF.dfr ?_
 have bel:=st.bel
 exact⟨_,rfl,Rq.castM (st.f 0 rfl) (diffV_Q _ _).symm,bel⟩
theorem recross_daw (v1:Value) (n xa xb xc xd:Int) (w:World) (hT:TabD w) (h1:Rq w v1 (((1:Int):Rat)/((4:Int):Rat))) (hp:PlOk xa xb xc xd) (hn0: -4000000≤n) (hn1:n≤4000000):
 Calls Tryz.prog 99 #[.int .i64 n,.agg #[.int .i64 xa,.int .i64 xb,.int .i64 xc,.int .i64 xd],v1,.int .i64 1] w (RqPost w (dawV n xa xb xc xd)):=by
 have st:=St.start w
 refine E.enter (nt:=56) (L:=[(0,.int .i64 n),(1,.agg #[.int .i64 xa,.int .i64 xb,.int .i64 xc,.int .i64 xd]),(2,v1),(3,.int .i64 1)]) Tryz.func99 rfl rfl rfl (args_cons (i:=0) rfl (args_cons (i:=1) rfl (args_cons (i:=2) rfl (args_cons (i:=3) rfl args_nil)))) ?_
 intro a hF
 refine wp_seq ?_
 refine E.seq ?_
 refine S.box st hF (hF.at 1 rfl) rfl rfl fun g5 w1 a st hF=>?_
 obtain⟨b3,ad3,n3,c3,ae3,m3,d3,rfl⟩:=Rq.form h1
 refine S.box st hF (hF.at 3 rfl) rfl rfl fun g6 w2 a st hF=>?_
 refine S.alloc st hF ty_Rat rfl rfl fun g8 w4 a st hF=>?_
 refine E.nil ?_
 refine wp_seq ?_
 refine E.seq ?_
 refine E.opv hF (r_move (hF.at 3 rfl)) rfl rfl rfl rfl fun a hF=>?_
 refine S.call st hF (r_call Tryz.func41 en41.1 en41.2 (map1 (hF.at 0 rfl))) (rWhole_any (n) _ (by omega) (by omega)) (fun _ _ h=>h) Rq.cl rfl rfl rfl rfl fun vv6 w5 a st hF=>?_
 obtain⟨b8,ad8,n8,c8,ae8,m8,d8,rfl⟩:=Rq.form (st.f 0 rfl)
 refine S.new st hF 0 rfl ty_Rat rfl rfl rfl rfl rfl fun g9 w9 a st hF=>?_
 refine E.nil ?_
 refine wp_seq ?_
 refine E.drawn 6 mixed hF [17,18,19,20,10,11] [(fun _ v=>v= .agg #[.bool b8,.slice ad8 n8 c8,.slice ae8 m8 d8]),(fun w v=>Rq w v (mof (((n:Int):Rat)) pay)),(fun _ v=>v= .agg #[.bool b8,.slice ad8 n8 c8,.slice ae8 m8 d8]),(fun w v=>Rq w v (tropV (((n:Int):Rat)))),(fun w v=>∃g,v= .pointer (some ⟨g,0,none⟩)∧w9.heap.size≤g∧Own w g [.bool false,.slice none 0 0,.slice none 0 0]),(fun w v=>∃g,v= .pointer (some ⟨g,0,none⟩)∧w9.heap.size≤g∧Own w g [.bool false,.slice none 0 0,.slice none 0 0])] [4,5] (by decide+kernel) (by decide+kernel) rfl rfl rfl ⟨(Mb.eq _),(fun _ _ _ h hb=>h.below hb),(Mb.eq _),(fun _ _ _ h hb=>h.below hb),(fun _ _ _ ⟨g,e,l,o⟩ hb=>⟨g,e,l,o.below hb⟩),(fun _ _ _ ⟨g,e,l,o⟩ hb=>⟨g,e,l,o.below hb⟩),trivial⟩ ⟨fun _ _ ⟨g,e,_,o⟩=>⟨g,e,o.lt⟩,⟨fun _ _ ⟨g,e,_,o⟩=>⟨g,e,o.lt⟩,trivial⟩⟩ ⟨?_,?_,?_,?_,?_,?_,trivial⟩ ?_
 ·intro a' w' hF' hb hd
  exact dv0 (r_load (hF'.at 0 rfl) (ld_all ty_Rat ((st.bk 0 rfl).below hb) rfl)) rfl rfl rfl
 ·intro a' w' hF' hb hd
  have e17:=sHe hd 0 17 rfl rfl rfl rfl
  exact dc0 (r_call Tryz.func79 en79.1 en79.2 (map1 e17)) (reanomaly_any _ _ 2 _ ((st.f 0 rfl).below hb) (rlim_int (limz_64 (by omega) (by omega)) (by omega)) (by omega)) rfl rfl
 ·intro a' w' hF' hb hd
  exact dv0 (r_load (hF'.at 0 rfl) (ld_all ty_Rat ((st.bk 0 rfl).below hb) rfl)) rfl rfl rfl
 ·intro a' w' hF' hb hd
  have e19:=sHe hd 0 19 rfl rfl rfl rfl
  exact dc0 (r_call Tryz.func16 en16.1 en16.2 (map1 e19)) (reTropical_any _ _ 2 _ (hT.below (below_to st.bel hb)) ((st.f 0 rfl).below hb) (rlim_int (limz_64 (by omega) (by omega)) (by omega)) (by omega)) rfl rfl
 ·intro a' w' hF' hb hd
  exact da0 ty_Rat rfl hb.size rfl
 ·intro a' w' hF' hb hd
  exact da0 ty_Rat rfl hb.size rfl
 intro a w10 hF bb hall hne
 have s0:=st
 replace st:=st.to bb
 obtain⟨vv11,e18,hh12⟩:=sS hall 1 18 rfl rfl
 replace st:=st.add hh12 (Rq.cl _)
 clear hh12
 obtain⟨vv13,e20,hh14⟩:=sS hall 3 20 rfl rfl
 replace st:=st.add hh14 (Rq.cl _)
 clear hh14
 obtain⟨_,e10,g10,rfl,ge10,o10⟩:=sS hall 4 10 rfl rfl
 replace st:=st.push o10.blk (Nat.le_trans s0.bel.size ge10) (s0.ne ge10)
 clear o10
 obtain⟨_,e11,g11,rfl,ge11,o11⟩:=sS hall 5 11 rfl rfl
 replace st:=st.push o11.blk (Nat.le_trans s0.bel.size ge11) (ne_cons (fun(e:g10=g11)=>hne 4 5 10 11 rfl rfl (by decide) rfl rfl (by rw[e10,e11,e])) (s0.ne ge11))
 clear o11
 clear hall hne bb s0
 obtain⟨b15,ad15,n15,c15,ae15,m15,d15,rfl⟩:=Rq.form (st.f 1 rfl)
 replace hF:=hF.add e18
 clear e18
 obtain⟨b16,ad16,n16,c16,ae16,m16,d16,rfl⟩:=Rq.form (st.f 0 rfl)
 replace hF:=hF.add e20
 clear e20
 replace hF:=hF.add e10
 clear e10
 replace hF:=hF.add e11
 clear e11
 refine S.sto st hF 1 rfl (hF.at 1 rfl) (hF.at 3 rfl) ty_Rat rfl rfl rfl rfl fun w17 a st hF=>?_
 refine S.sto st hF 0 rfl (hF.at 0 rfl) (hF.at 2 rfl) ty_Rat rfl rfl rfl rfl fun w18 a st hF=>?_
 refine E.nil ?_
 refine wp_seq ?_
 refine E.drawn 8 mixed hF [21,22,23,24,25,26,27,12] [(fun _ v=>v= .agg #[.int .i64 463,.int .i64 20,.int .i64 45461,.int .i64 600]),(fun w v=>Rq w v (((45461:Int):Rat)/((600:Int):Rat))),(fun _ v=>v= .agg #[.int .i64 xa,.int .i64 xb,.int .i64 xc,.int .i64 xd]),(fun w v=>Rq w v (((xc:Int):Rat)/((xd:Int):Rat))),(fun w v=>Rq w v ((((45461:Int):Rat)/((600:Int):Rat))-(((xc:Int):Rat)/((xd:Int):Rat)))),(fun w v=>Rq w v (((1:Int):Rat)/((360:Int):Rat))),(fun w v=>Rq w v (((((45461:Int):Rat)/((600:Int):Rat))-(((xc:Int):Rat)/((xd:Int):Rat)))*(((1:Int):Rat)/((360:Int):Rat)))),(fun w v=>∃g,v= .pointer (some ⟨g,0,none⟩)∧w18.heap.size≤g∧Own w g [.bool false,.slice none 0 0,.slice none 0 0])] [7] (by decide+kernel) (by decide+kernel) rfl rfl rfl ⟨(Mb.eq _),(fun _ _ _ h hb=>h.below hb),(Mb.eq _),(fun _ _ _ h hb=>h.below hb),(fun _ _ _ h hb=>h.below hb),(fun _ _ _ h hb=>h.below hb),(fun _ _ _ h hb=>h.below hb),(fun _ _ _ ⟨g,e,l,o⟩ hb=>⟨g,e,l,o.below hb⟩),trivial⟩ ⟨fun _ _ ⟨g,e,_,o⟩=>⟨g,e,o.lt⟩,trivial⟩ ⟨?_,?_,?_,?_,?_,?_,?_,?_,trivial⟩ ?_
 ·intro a' w' hF' hb hd
  exact dcx0 (r_call Tryz.func49 en49.1 en49.2 map0) (pUj_any _) (fun _=>rfl) rfl rfl
 ·intro a' w' hF' hb hd
  have e21:=sHe hd 0 21 rfl rfl rfl rfl
  exact dc0 (r_call Tryz.func39 en39.1 en39.2 (map1 e21)) (pLongitude_any 463 20 45461 600 _ (by decide) (by decide) (by decide) (by decide)) rfl rfl
 ·intro a' w' hF' hb hd
  exact dv0 (r_load (hF'.at 9 rfl) (ld_all ty_Plc ((st.bk 5 rfl).below hb) rfl)) rfl rfl rfl
 ·intro a' w' hF' hb hd
  have e23:=sHe hd 0 23 rfl rfl rfl rfl
  exact dc0 (r_call Tryz.func39 en39.1 en39.2 (map1 e23)) (pLongitude_any xa xb xc xd _ (by have:=hp.c0;have:=hp.c1;have:=hp.b1;have:=hp.d1;omega) (by have:=hp.c0;have:=hp.c1;have:=hp.b1;have:=hp.d1;omega) (by have:=hp.d0;have:=hp.d1;have:=hp.b1;have:=hp.d1;omega) (by have:=hp.d0;have:=hp.d1;have:=hp.b1;have:=hp.d1;omega)) rfl rfl
 ·intro a' w' hF' hb hd
  obtain⟨v22_0,e22,h22_1⟩:=sH hd 0 22 rfl rfl rfl rfl
  obtain⟨v24_0,e24,h24_1⟩:=sH hd 1 24 rfl rfl rfl rfl
  exact dc0 (r_call Tryz.func36 en36.1 en36.2 (map2 e22 e24)) (rSub_any _ _ _ _ 2 _ h22_1 h24_1 ((lim64q (n:=45461) (d:=600) (by decide) (by decide) (by decide) (by decide)).up _ (by omega)) ((lim64q (n:=xc) (d:=xd) (by have:=hp.c0;have:=hp.c1;have:=hp.b1;have:=hp.d1;omega) (by have:=hp.c0;have:=hp.c1;have:=hp.b1;have:=hp.d1;omega) (by have:=hp.d0;have:=hp.d1;have:=hp.b1;have:=hp.d1;omega) (by have:=hp.d0;have:=hp.d1;have:=hp.b1;have:=hp.d1;omega)).up _ (by omega)) (by omega)) rfl rfl
 ·intro a' w' hF' hb hd
  exact dc0 (r_call Tryz.func38 en38.1 en38.2 (map2 ev_c ev_c)) (rOf2_any (1) (360) _ (by decide) (by decide) (by decide) (by decide)) rfl rfl
 ·intro a' w' hF' hb hd
  obtain⟨v25_0,e25,h25_1⟩:=sH hd 0 25 rfl rfl rfl rfl
  obtain⟨v26_0,e26,h26_1⟩:=sH hd 1 26 rfl rfl rfl rfl
  exact dc0 (r_call Tryz.func52 en52.1 en52.2 (map2 e25 e26)) (rMul_any _ _ _ _ (max (2+2+1) 2) _ h25_1 h26_1 ((rlim_sub (lim64q (n:=45461) (d:=600) (by decide) (by decide) (by decide) (by decide)) (lim64q (n:=xc) (d:=xd) (by have:=hp.c0;have:=hp.c1;have:=hp.b1;have:=hp.d1;omega) (by have:=hp.c0;have:=hp.c1;have:=hp.b1;have:=hp.d1;omega) (by have:=hp.d0;have:=hp.d1;have:=hp.b1;have:=hp.d1;omega) (by have:=hp.d0;have:=hp.d1;have:=hp.b1;have:=hp.d1;omega))).up _ (by omega)) ((RLim.up (rlim_mk2 (limz_64 (by decide) (by decide)) (limz_64 (by decide) (by decide))) 2 (by decide)).up _ (by omega)) (by omega)) rfl rfl
 ·intro a' w' hF' hb hd
  exact da0 ty_Rat rfl hb.size rfl
 intro a w19 hF bb hall hne
 have s0:=st
 replace st:=st.to bb
 obtain⟨vv20,e27,hh21⟩:=sS hall 6 27 rfl rfl
 replace st:=st.add hh21 (Rq.cl _)
 clear hh21
 obtain⟨_,e12,g12,rfl,ge12,o12⟩:=sS hall 7 12 rfl rfl
 replace st:=st.push o12.blk (Nat.le_trans s0.bel.size ge12) (s0.ne ge12)
 clear o12
 clear hall hne bb s0
 obtain⟨b22,ad22,n22,c22,ae22,m22,d22,rfl⟩:=Rq.form (st.f 0 rfl)
 replace hF:=hF.add e27
 clear e27
 replace hF:=hF.add e12
 clear e12
 refine S.sto st hF 0 rfl (hF.at 0 rfl) (hF.at 1 rfl) ty_Rat rfl rfl rfl rfl fun w23 a st hF=>?_
 refine E.nil ?_
 refine wp_seq ?_
 refine E.drawn 15 mixed hF [28,29,30,31,32,33,34,35,36,37,38,39,40,41,13] [(fun _ v=>v= .agg #[.bool b3,.slice ad3 n3 c3,.slice ae3 m3 d3]),(fun _ v=>v= .agg #[.bool b15,.slice ad15 n15 c15,.slice ae15 m15 d15]),(fun w v=>Rq w v (motQ (mof (((n:Int):Rat)) pay))),(fun w v=>Rq w v ((((1:Int):Rat)/((4:Int):Rat))*(motQ (mof (((n:Int):Rat)) pay)))),(fun _ v=>v= .agg #[.bool b16,.slice ad16 n16 c16,.slice ae16 m16 d16]),(fun w v=>Rq w v (risQ (tropV (((n:Int):Rat))))),(fun w v=>Rq w v (((((1:Int):Rat)/((4:Int):Rat))*(motQ (mof (((n:Int):Rat)) pay)))*(risQ (tropV (((n:Int):Rat)))))),(fun _ v=>v= .agg #[.bool b16,.slice ad16 n16 c16,.slice ae16 m16 d16]),(fun _ v=>v= .agg #[.int .i64 xa,.int .i64 xb,.int .i64 xc,.int .i64 xd]),(fun w v=>Rq w v (diffQ (tropV (((n:Int):Rat))) (((xa:Int):Rat)/((xb:Int):Rat)))),(fun _ v=>v= .int .i64 1),(fun w v=>Rq w v (((1:Int):Rat))),(fun w v=>Rq w v ((diffQ (tropV (((n:Int):Rat))) (((xa:Int):Rat)/((xb:Int):Rat)))*(((1:Int):Rat)))),(fun w v=>Rq w v ((((((1:Int):Rat)/((4:Int):Rat))*(motQ (mof (((n:Int):Rat)) pay)))*(risQ (tropV (((n:Int):Rat)))))+((diffQ (tropV (((n:Int):Rat))) (((xa:Int):Rat)/((xb:Int):Rat)))*(((1:Int):Rat))))),(fun w v=>∃g,v= .pointer (some ⟨g,0,none⟩)∧w23.heap.size≤g∧Own w g [.bool false,.slice none 0 0,.slice none 0 0])] [14] (by decide+kernel) (by decide+kernel) rfl rfl rfl ⟨(Mb.eq _),(Mb.eq _),(fun _ _ _ h hb=>h.below hb),(fun _ _ _ h hb=>h.below hb),(Mb.eq _),(fun _ _ _ h hb=>h.below hb),(fun _ _ _ h hb=>h.below hb),(Mb.eq _),(Mb.eq _),(fun _ _ _ h hb=>h.below hb),(Mb.eq _),(fun _ _ _ h hb=>h.below hb),(fun _ _ _ h hb=>h.below hb),(fun _ _ _ h hb=>h.below hb),(fun _ _ _ ⟨g,e,l,o⟩ hb=>⟨g,e,l,o.below hb⟩),trivial⟩ ⟨fun _ _ ⟨g,e,_,o⟩=>⟨g,e,o.lt⟩,trivial⟩ ⟨?_,?_,?_,?_,?_,?_,?_,?_,?_,?_,?_,?_,?_,?_,?_,trivial⟩ ?_
 ·intro a' w' hF' hb hd
  exact dv0 (r_load (hF'.at 10 rfl) (ld_all ty_Rat ((st.bk 5 rfl).below hb) rfl)) rfl rfl rfl
 ·intro a' w' hF' hb hd
  exact dv0 (r_load (hF'.at 3 rfl) (ld_all ty_Rat ((st.bk 2 rfl).below hb) rfl)) rfl rfl rfl
 ·intro a' w' hF' hb hd
  have e29:=sHe hd 0 29 rfl rfl rfl rfl
  exact dc0 (r_call Tryz.func78 en78.1 en78.2 (map1 e29)) (remotion_any _ _ (2+2+5) _ (hT.below (below_to st.bel hb)) ((st.f 2 rfl).below hb) (mof_lim (rlim_int (limz_64 (by omega) (by omega)) (by omega)) pay_lim) (by omega)) rfl rfl
 ·intro a' w' hF' hb hd
  have e28:=sHe hd 0 28 rfl rfl rfl rfl
  obtain⟨v30_0,e30,h30_1⟩:=sH hd 1 30 rfl rfl rfl rfl
  exact dc0 (r_call Tryz.func52 en52.1 en52.2 (map2 e28 e30)) (rMul_any _ _ _ _ (max 2 ((2+2+5)+40)) _ (h1.below (below_to st.bel hb)) h30_1 ((lim64q (n:=1) (d:=4) (by decide) (by decide) (by decide) (by decide)).up _ (by omega)) ((motQ_lim (mof_lim (rlim_int (limz_64 (by omega) (by omega)) (by omega)) pay_lim)).up _ (by omega)) (by omega)) rfl rfl
 ·intro a' w' hF' hb hd
  exact dv0 (r_load (hF'.at 2 rfl) (ld_all ty_Rat ((st.bk 1 rfl).below hb) rfl)) rfl rfl rfl
 ·intro a' w' hF' hb hd
  have e32:=sHe hd 0 32 rfl rfl rfl rfl
  exact dc0 (r_call Tryz.func86 en86.1 en86.2 (map1 e32)) (rerising_any _ _ (5*2+180) _ ((st.f 1 rfl).below hb) (trop_lim (rlim_int (limz_64 (by omega) (by omega)) (by omega))) (by omega) (rmod_low c360_pos) (rmod_high c360_pos)) rfl rfl
 ·intro a' w' hF' hb hd
  obtain⟨v31_0,e31,h31_1⟩:=sH hd 0 31 rfl rfl rfl rfl
  obtain⟨v33_0,e33,h33_1⟩:=sH hd 1 33 rfl rfl rfl rfl
  exact dc0 (r_call Tryz.func52 en52.1 en52.2 (map2 e31 e33)) (rMul_any _ _ _ _ (max (2+((2+2+5)+40)) 1) _ h31_1 h33_1 ((rlim_mul (lim64q (n:=1) (d:=4) (by decide) (by decide) (by decide) (by decide)) (motQ_lim (mof_lim (rlim_int (limz_64 (by omega) (by omega)) (by omega)) pay_lim))).up _ (by omega)) ((risQ_lim _).up _ (by omega)) (by omega)) rfl rfl
 ·intro a' w' hF' hb hd
  exact dv0 (r_load (hF'.at 2 rfl) (ld_all ty_Rat ((st.bk 1 rfl).below hb) rfl)) rfl rfl rfl
 ·intro a' w' hF' hb hd
  exact dv0 (r_load (hF'.at 11 rfl) (ld_all ty_Plc ((st.bk 6 rfl).below hb) rfl)) rfl rfl rfl
 ·intro a' w' hF' hb hd
  have e35:=sHe hd 0 35 rfl rfl rfl rfl
  have e36:=sHe hd 1 36 rfl rfl rfl rfl
  exact dc0 (r_call Tryz.func89 en89.1 en89.2 (map2 e35 e36)) (redifference_any _ _ xa xb xc xd (5*2+180) _ (hT.below (below_to st.bel hb)) ((st.f 1 rfl).below hb) (trop_lim (rlim_int (limz_64 (by omega) (by omega)) (by omega))) (by omega) (by have:=hp.a0;have:=hp.a1;have:=hp.b1;have:=hp.d1;omega) (by have:=hp.a0;have:=hp.a1;have:=hp.b1;have:=hp.d1;omega) (by have:=hp.b0;have:=hp.b1;have:=hp.b1;have:=hp.d1;omega) (by have:=hp.b0;have:=hp.b1;have:=hp.b1;have:=hp.d1;omega)) rfl rfl
 ·intro a' w' hF' hb hd
  exact dv0 (r_move (hF'.at 15 rfl)) rfl rfl rfl
 ·intro a' w' hF' hb hd
  have e38:=sHe hd 0 38 rfl rfl rfl rfl
  exact dc0 (r_call Tryz.func41 en41.1 en41.2 (map1 e38)) (rWhole_any (1) _ (by decide) (by decide)) rfl rfl
 ·intro a' w' hF' hb hd
  obtain⟨v37_0,e37,h37_1⟩:=sH hd 0 37 rfl rfl rfl rfl
  obtain⟨v39_0,e39,h39_1⟩:=sH hd 1 39 rfl rfl rfl rfl
  exact dc0 (r_call Tryz.func52 en52.1 en52.2 (map2 e37 e39)) (rMul_any _ _ _ _ (max (2*(5*2+180)+140) 2) _ h37_1 h39_1 ((diffQ_lim (trop_lim (rlim_int (limz_64 (by omega) (by omega)) (by omega))) (lim64q (n:=xa) (d:=xb) (by have:=hp.a0;have:=hp.a1;have:=hp.b1;have:=hp.d1;omega) (by have:=hp.a0;have:=hp.a1;have:=hp.b1;have:=hp.d1;omega) (by have:=hp.b0;have:=hp.b1;have:=hp.b1;have:=hp.d1;omega) (by have:=hp.b0;have:=hp.b1;have:=hp.b1;have:=hp.d1;omega)) (by decide)).up _ (by omega)) ((rlim_int (limz_64 (by decide) (by decide)) (by omega)).up _ (by omega)) (by omega)) rfl rfl
 ·intro a' w' hF' hb hd
  obtain⟨v34_0,e34,h34_1⟩:=sH hd 0 34 rfl rfl rfl rfl
  obtain⟨v40_0,e40,h40_1⟩:=sH hd 1 40 rfl rfl rfl rfl
  exact dc0 (r_call Tryz.func51 en51.1 en51.2 (map2 e34 e40)) (rAdd_any _ _ _ _ (max ((2+((2+2+5)+40))+1) ((2*(5*2+180)+140)+2)) _ h34_1 h40_1 ((rlim_mul (rlim_mul (lim64q (n:=1) (d:=4) (by decide) (by decide) (by decide) (by decide)) (motQ_lim (mof_lim (rlim_int (limz_64 (by omega) (by omega)) (by omega)) pay_lim))) (risQ_lim _)).up _ (by omega)) ((rlim_mul (diffQ_lim (trop_lim (rlim_int (limz_64 (by omega) (by omega)) (by omega))) (lim64q (n:=xa) (d:=xb) (by have:=hp.a0;have:=hp.a1;have:=hp.b1;have:=hp.d1;omega) (by have:=hp.a0;have:=hp.a1;have:=hp.b1;have:=hp.d1;omega) (by have:=hp.b0;have:=hp.b1;have:=hp.b1;have:=hp.d1;omega) (by have:=hp.b0;have:=hp.b1;have:=hp.b1;have:=hp.d1;omega)) (by decide)) (rlim_int (limz_64 (by decide) (by decide)) (by omega))).up _ (by omega)) (by omega)) rfl rfl
 ·intro a' w' hF' hb hd
  exact da0 ty_Rat rfl hb.size rfl
 intro a w24 hF bb hall hne
 have s0:=st
 replace st:=st.to bb
 obtain⟨vv25,e41,hh26⟩:=sS hall 13 41 rfl rfl
 replace st:=st.add hh26 (Rq.cl _)
 clear hh26
 obtain⟨_,e13,g13,rfl,ge13,o13⟩:=sS hall 14 13 rfl rfl
 replace st:=st.push o13.blk (Nat.le_trans s0.bel.size ge13) (s0.ne ge13)
 clear o13
 clear hall hne bb s0
 obtain⟨b27,ad27,n27,c27,ae27,m27,d27,rfl⟩:=Rq.form (st.f 0 rfl)
 replace hF:=hF.add e41
 clear e41
 replace hF:=hF.add e13
 clear e13
 refine S.sto st hF 0 rfl (hF.at 0 rfl) (hF.at 1 rfl) ty_Rat rfl rfl rfl rfl fun w28 a st hF=>?_
 refine E.nil ?_
 refine wp_seq ?_
 refine E.drawn 6 mixed hF [42,43,44,45,46,14] [(fun w v=>Rq w v (((1577917828:Int):Rat)/((1582237828:Int):Rat))),(fun w v=>Rq w v (((1:Int):Rat)/((360:Int):Rat))),(fun w v=>Rq w v ((((1577917828:Int):Rat)/((1582237828:Int):Rat))*(((1:Int):Rat)/((360:Int):Rat)))),(fun _ v=>v= .agg #[.bool b27,.slice ad27 n27 c27,.slice ae27 m27 d27]),(fun w v=>Rq w v (((((1577917828:Int):Rat)/((1582237828:Int):Rat))*(((1:Int):Rat)/((360:Int):Rat)))*((((((1:Int):Rat)/((4:Int):Rat))*(motQ (mof (((n:Int):Rat)) pay)))*(risQ (tropV (((n:Int):Rat)))))+((diffQ (tropV (((n:Int):Rat))) (((xa:Int):Rat)/((xb:Int):Rat)))*(((1:Int):Rat)))))),(fun w v=>∃g,v= .pointer (some ⟨g,0,none⟩)∧w28.heap.size≤g∧Own w g [.bool false,.slice none 0 0,.slice none 0 0])] [5] (by decide+kernel) (by decide+kernel) rfl rfl rfl ⟨(fun _ _ _ h hb=>h.below hb),(fun _ _ _ h hb=>h.below hb),(fun _ _ _ h hb=>h.below hb),(Mb.eq _),(fun _ _ _ h hb=>h.below hb),(fun _ _ _ ⟨g,e,l,o⟩ hb=>⟨g,e,l,o.below hb⟩),trivial⟩ ⟨fun _ _ ⟨g,e,_,o⟩=>⟨g,e,o.lt⟩,trivial⟩ ⟨?_,?_,?_,?_,?_,?_,trivial⟩ ?_
 ·intro a' w' hF' hb hd
  exact dc0 (r_call Tryz.func38 en38.1 en38.2 (map2 ev_c ev_c)) (rOf2_any (1577917828) (1582237828) _ (by decide) (by decide) (by decide) (by decide)) rfl rfl
 ·intro a' w' hF' hb hd
  exact dc0 (r_call Tryz.func38 en38.1 en38.2 (map2 ev_c ev_c)) (rOf2_any (1) (360) _ (by decide) (by decide) (by decide) (by decide)) rfl rfl
 ·intro a' w' hF' hb hd
  obtain⟨v42_0,e42,h42_1⟩:=sH hd 0 42 rfl rfl rfl rfl
  obtain⟨v43_0,e43,h43_1⟩:=sH hd 1 43 rfl rfl rfl rfl
  exact dc0 (r_call Tryz.func52 en52.1 en52.2 (map2 e42 e43)) (rMul_any _ _ _ _ 2 _ h42_1 h43_1 ((RLim.up (rlim_mk2 (limz_64 (by decide) (by decide)) (limz_64 (by decide) (by decide))) 2 (by decide)).up _ (by omega)) ((RLim.up (rlim_mk2 (limz_64 (by decide) (by decide)) (limz_64 (by decide) (by decide))) 2 (by decide)).up _ (by omega)) (by omega)) rfl rfl
 ·intro a' w' hF' hb hd
  exact dv0 (r_load (hF'.at 0 rfl) (ld_all ty_Rat ((st.bk 0 rfl).below hb) rfl)) rfl rfl rfl
 ·intro a' w' hF' hb hd
  obtain⟨v44_0,e44,h44_1⟩:=sH hd 0 44 rfl rfl rfl rfl
  have e45:=sHe hd 1 45 rfl rfl rfl rfl
  exact dc0 (r_call Tryz.func52 en52.1 en52.2 (map2 e44 e45)) (rMul_any _ _ _ _ (max (2+2) (((2+((2+2+5)+40))+1)+((2*(5*2+180)+140)+2)+1)) _ h44_1 ((st.f 0 rfl).below hb) ((rlim_mul (RLim.up (rlim_mk2 (limz_64 (by decide) (by decide)) (limz_64 (by decide) (by decide))) 2 (by decide)) (RLim.up (rlim_mk2 (limz_64 (by decide) (by decide)) (limz_64 (by decide) (by decide))) 2 (by decide))).up _ (by omega)) ((rlim_add (rlim_mul (rlim_mul (lim64q (n:=1) (d:=4) (by decide) (by decide) (by decide) (by decide)) (motQ_lim (mof_lim (rlim_int (limz_64 (by omega) (by omega)) (by omega)) pay_lim))) (risQ_lim _)) (rlim_mul (diffQ_lim (trop_lim (rlim_int (limz_64 (by omega) (by omega)) (by omega))) (lim64q (n:=xa) (d:=xb) (by have:=hp.a0;have:=hp.a1;have:=hp.b1;have:=hp.d1;omega) (by have:=hp.a0;have:=hp.a1;have:=hp.b1;have:=hp.d1;omega) (by have:=hp.b0;have:=hp.b1;have:=hp.b1;have:=hp.d1;omega) (by have:=hp.b0;have:=hp.b1;have:=hp.b1;have:=hp.d1;omega)) (by decide)) (rlim_int (limz_64 (by decide) (by decide)) (by omega)))).up _ (by omega)) (by omega)) rfl rfl
 ·intro a' w' hF' hb hd
  exact da0 ty_Rat rfl hb.size rfl
 intro a w29 hF bb hall hne
 have s0:=st
 replace st:=st.to bb
 obtain⟨vv30,e46,hh31⟩:=sS hall 4 46 rfl rfl
 replace st:=st.add hh31 (Rq.cl _)
 clear hh31
 obtain⟨_,e14,g14,rfl,ge14,o14⟩:=sS hall 5 14 rfl rfl
 replace st:=st.push o14.blk (Nat.le_trans s0.bel.size ge14) (s0.ne ge14)
 clear o14
 clear hall hne bb s0
 obtain⟨b32,ad32,n32,c32,ae32,m32,d32,rfl⟩:=Rq.form (st.f 0 rfl)
 replace hF:=hF.add e46
 clear e46
 replace hF:=hF.add e14
 clear e14
 refine S.sto st hF 0 rfl (hF.at 0 rfl) (hF.at 1 rfl) ty_Rat rfl rfl rfl rfl fun w33 a st hF=>?_
 refine E.nil ?_
 refine wp_seq ?_
 refine E.drawn 9 mixed hF [47,48,49,50,51,52,53,54,55] [(fun _ v=>v= .agg #[.bool b8,.slice ad8 n8 c8,.slice ae8 m8 d8]),(fun _ v=>v= .agg #[.bool b3,.slice ad3 n3 c3,.slice ae3 m3 d3]),(fun _ v=>v= .agg #[.bool b22,.slice ad22 n22 c22,.slice ae22 m22 d22]),(fun _ v=>v= .agg #[.bool b15,.slice ad15 n15 c15,.slice ae15 m15 d15]),(fun w v=>Rq w v (eqnQ (mof (((n:Int):Rat)) pay))),(fun w v=>Rq w v (-(eqnQ (mof (((n:Int):Rat)) pay)))),(fun _ v=>v= .agg #[.bool b32,.slice ad32 n32 c32,.slice ae32 m32 d32]),(fun w v=>QRow w v [((n:Int):Rat),((1:Int):Rat)/((4:Int):Rat),((((45461:Int):Rat)/((600:Int):Rat))-(((xc:Int):Rat)/((xd:Int):Rat)))*(((1:Int):Rat)/((360:Int):Rat)), -(eqnQ (mof (((n:Int):Rat)) pay)),((((1577917828:Int):Rat)/((1582237828:Int):Rat))*(((1:Int):Rat)/((360:Int):Rat)))*((((((1:Int):Rat)/((4:Int):Rat))*(motQ (mof (((n:Int):Rat)) pay)))*(risQ (tropV (((n:Int):Rat)))))+((diffQ (tropV (((n:Int):Rat))) (((xa:Int):Rat)/((xb:Int):Rat)))*(((1:Int):Rat))))]),(fun w v=>Rq w v ((((n:Int):Rat))+(((1:Int):Rat)/((4:Int):Rat))+(((((45461:Int):Rat)/((600:Int):Rat))-(((xc:Int):Rat)/((xd:Int):Rat)))*(((1:Int):Rat)/((360:Int):Rat)))+(-(eqnQ (mof (((n:Int):Rat)) pay)))+(((((1577917828:Int):Rat)/((1582237828:Int):Rat))*(((1:Int):Rat)/((360:Int):Rat)))*((((((1:Int):Rat)/((4:Int):Rat))*(motQ (mof (((n:Int):Rat)) pay)))*(risQ (tropV (((n:Int):Rat)))))+((diffQ (tropV (((n:Int):Rat))) (((xa:Int):Rat)/((xb:Int):Rat)))*(((1:Int):Rat)))))))] [] (by decide+kernel) (by decide+kernel) rfl rfl rfl ⟨(Mb.eq _),(Mb.eq _),(Mb.eq _),(Mb.eq _),(fun _ _ _ h hb=>h.below hb),(fun _ _ _ h hb=>h.below hb),(Mb.eq _),(QRow.mono _),(fun _ _ _ h hb=>h.below hb),trivial⟩ trivial ⟨?_,?_,?_,?_,?_,?_,?_,?_,?_,trivial⟩ ?_
 ·intro a' w' hF' hb hd
  exact dv0 (r_load (hF'.at 10 rfl) (ld_all ty_Rat ((st.bk 5 rfl).below hb) rfl)) rfl rfl rfl
 ·intro a' w' hF' hb hd
  exact dv0 (r_load (hF'.at 14 rfl) (ld_all ty_Rat ((st.bk 7 rfl).below hb) rfl)) rfl rfl rfl
 ·intro a' w' hF' hb hd
  exact dv0 (r_load (hF'.at 4 rfl) (ld_all ty_Rat ((st.bk 2 rfl).below hb) rfl)) rfl rfl rfl
 ·intro a' w' hF' hb hd
  exact dv0 (r_load (hF'.at 7 rfl) (ld_all ty_Rat ((st.bk 4 rfl).below hb) rfl)) rfl rfl rfl
 ·intro a' w' hF' hb hd
  have e50:=sHe hd 0 50 rfl rfl rfl rfl
  exact dc0 (r_call Tryz.func88 en88.1 en88.2 (map1 e50)) (reequation_any _ _ (2+2+5) _ (hT.below (below_to st.bel hb)) ((st.f 4 rfl).below hb) (mof_lim (rlim_int (limz_64 (by omega) (by omega)) (by omega)) pay_lim) (by omega)) rfl rfl
 ·intro a' w' hF' hb hd
  obtain⟨v51_0,e51,h51_1⟩:=sH hd 0 51 rfl rfl rfl rfl
  exact dc0 (r_call Tryz.func100 en100.1 en100.2 (map1 e51)) (rOpp_any _ _ _ h51_1) rfl rfl
 ·intro a' w' hF' hb hd
  exact dv0 (r_load (hF'.at 0 rfl) (ld_all ty_Rat ((st.bk 0 rfl).below hb) rfl)) rfl rfl rfl
 ·intro a' w' hF' hb hd
  have e47:=sHe hd 0 47 rfl rfl rfl rfl
  have e48:=sHe hd 1 48 rfl rfl rfl rfl
  have e49:=sHe hd 2 49 rfl rfl rfl rfl
  obtain⟨v52_0,e52,h52_1⟩:=sH hd 3 52 rfl rfl rfl rfl
  have e53:=sHe hd 4 53 rfl rfl rfl rfl
  obtain⟨vq,w2,hr,bb,hq⟩:=bs_rats5 ((st.f 5 rfl).below hb) (h1.below (below_to st.bel hb)) ((st.f 2 rfl).below hb) h52_1 ((st.f 0 rfl).below hb)
  exact if_does (wanted_free rfl) (Does.vals (r_buildSlice (pair5 e47 e48 e49 e52 e53) hr) ⟨hq,bb,(fun h=>absurd h (by decide))⟩)
 ·intro a' w' hF' hb hd
  obtain⟨v54_0,e54,h54_1⟩:=sH hd 0 54 rfl rfl rfl rfl
  exact dc0 (r_call Tryz.func50 en50.1 en50.2 (map1 e54)) (rSum5 _ (((n:Int):Rat)) (((1:Int):Rat)/((4:Int):Rat)) (((((45461:Int):Rat)/((600:Int):Rat))-(((xc:Int):Rat)/((xd:Int):Rat)))*(((1:Int):Rat)/((360:Int):Rat))) (-(eqnQ (mof (((n:Int):Rat)) pay))) (((((1577917828:Int):Rat)/((1582237828:Int):Rat))*(((1:Int):Rat)/((360:Int):Rat)))*((((((1:Int):Rat)/((4:Int):Rat))*(motQ (mof (((n:Int):Rat)) pay)))*(risQ (tropV (((n:Int):Rat)))))+((diffQ (tropV (((n:Int):Rat))) (((xa:Int):Rat)/((xb:Int):Rat)))*(((1:Int):Rat))))) (max (max (max 2 ((2+2+1)+2)) (3*(2+2+5)+100)) ((2+2)+(((2+((2+2+5)+40))+1)+((2*(5*2+180)+140)+2)+1))) _ h54_1 ((rlim_int (limz_64 (by omega) (by omega)) (by omega)).up _ (by omega)) ((lim64q (n:=1) (d:=4) (by decide) (by decide) (by decide) (by decide)).up _ (by omega)) ((rlim_mul (rlim_sub (lim64q (n:=45461) (d:=600) (by decide) (by decide) (by decide) (by decide)) (lim64q (n:=xc) (d:=xd) (by have:=hp.c0;have:=hp.c1;have:=hp.b1;have:=hp.d1;omega) (by have:=hp.c0;have:=hp.c1;have:=hp.b1;have:=hp.d1;omega) (by have:=hp.d0;have:=hp.d1;have:=hp.b1;have:=hp.d1;omega) (by have:=hp.d0;have:=hp.d1;have:=hp.b1;have:=hp.d1;omega))) (RLim.up (rlim_mk2 (limz_64 (by decide) (by decide)) (limz_64 (by decide) (by decide))) 2 (by decide))).up _ (by omega)) ((rlim_neg (eqnQ_lim (mof_lim (rlim_int (limz_64 (by omega) (by omega)) (by omega)) pay_lim))).up _ (by omega)) ((rlim_mul (rlim_mul (RLim.up (rlim_mk2 (limz_64 (by decide) (by decide)) (limz_64 (by decide) (by decide))) 2 (by decide)) (RLim.up (rlim_mk2 (limz_64 (by decide) (by decide)) (limz_64 (by decide) (by decide))) 2 (by decide))) (rlim_add (rlim_mul (rlim_mul (lim64q (n:=1) (d:=4) (by decide) (by decide) (by decide) (by decide)) (motQ_lim (mof_lim (rlim_int (limz_64 (by omega) (by omega)) (by omega)) pay_lim))) (risQ_lim _)) (rlim_mul (diffQ_lim (trop_lim (rlim_int (limz_64 (by omega) (by omega)) (by omega))) (lim64q (n:=xa) (d:=xb) (by have:=hp.a0;have:=hp.a1;have:=hp.b1;have:=hp.d1;omega) (by have:=hp.a0;have:=hp.a1;have:=hp.b1;have:=hp.d1;omega) (by have:=hp.b0;have:=hp.b1;have:=hp.b1;have:=hp.d1;omega) (by have:=hp.b0;have:=hp.b1;have:=hp.b1;have:=hp.d1;omega)) (by decide)) (rlim_int (limz_64 (by decide) (by decide)) (by omega))))).up _ (by omega)) (by omega)) rfl rfl
 intro a w34 hF bb hall hne
 replace st:=st.to bb
 obtain⟨vv35,e55,hh36⟩:=sS hall 8 55 rfl rfl
 replace st:=st.add hh36 (Rq.cl _)
 clear hh36
 clear hall hne bb
 obtain⟨b37,ad37,n37,c37,ae37,m37,d37,rfl⟩:=Rq.form (st.f 0 rfl)
 replace hF:=hF.add e55
 clear e55
 refine S.sto st hF 6 rfl (hF.at 14 rfl) (hF.at 0 rfl) ty_Rat rfl rfl rfl rfl fun w38 a st hF=>?_
 refine E.nil ?_
 refine wp_ret ?_
 refine S.ret Tryz.results99 st hF (hF.at 14 rfl) 6 rfl ty_Rat rfl hF.dfr ?_
 have bel:=st.bel
 exact⟨_,rfl,Rq.castM (st.f 0 rfl) (cross_eq _ _ _ 1 1 _ rfl),bel⟩
theorem recross_dus (v1:Value) (n xa xb xc xd:Int) (w:World) (hT:TabD w) (h1:Rq w v1 (((3:Int):Rat)/((4:Int):Rat))) (hp:PlOk xa xb xc xd) (hn0: -4000000≤n) (hn1:n≤4000000):
 Calls Tryz.prog 99 #[.int .i64 n,.agg #[.int .i64 xa,.int .i64 xb,.int .i64 xc,.int .i64 xd],v1,.int .i64 (-1)] w (RqPost w (dusV n xa xb xc xd)):=by
 have st:=St.start w
 refine E.enter (nt:=56) (L:=[(0,.int .i64 n),(1,.agg #[.int .i64 xa,.int .i64 xb,.int .i64 xc,.int .i64 xd]),(2,v1),(3,.int .i64 (-1))]) Tryz.func99 rfl rfl rfl (args_cons (i:=0) rfl (args_cons (i:=1) rfl (args_cons (i:=2) rfl (args_cons (i:=3) rfl args_nil)))) ?_
 intro a hF
 refine wp_seq ?_
 refine E.seq ?_
 refine S.box st hF (hF.at 1 rfl) rfl rfl fun g5 w1 a st hF=>?_
 obtain⟨b3,ad3,n3,c3,ae3,m3,d3,rfl⟩:=Rq.form h1
 refine S.box st hF (hF.at 3 rfl) rfl rfl fun g6 w2 a st hF=>?_
 refine S.alloc st hF ty_Rat rfl rfl fun g8 w4 a st hF=>?_
 refine E.nil ?_
 refine wp_seq ?_
 refine E.seq ?_
 refine E.opv hF (r_move (hF.at 3 rfl)) rfl rfl rfl rfl fun a hF=>?_
 refine S.call st hF (r_call Tryz.func41 en41.1 en41.2 (map1 (hF.at 0 rfl))) (rWhole_any (n) _ (by omega) (by omega)) (fun _ _ h=>h) Rq.cl rfl rfl rfl rfl fun vv6 w5 a st hF=>?_
 obtain⟨b8,ad8,n8,c8,ae8,m8,d8,rfl⟩:=Rq.form (st.f 0 rfl)
 refine S.new st hF 0 rfl ty_Rat rfl rfl rfl rfl rfl fun g9 w9 a st hF=>?_
 refine E.nil ?_
 refine wp_seq ?_
 refine E.drawn 6 mixed hF [17,18,19,20,10,11] [(fun _ v=>v= .agg #[.bool b8,.slice ad8 n8 c8,.slice ae8 m8 d8]),(fun w v=>Rq w v (mof (((n:Int):Rat)) pay)),(fun _ v=>v= .agg #[.bool b8,.slice ad8 n8 c8,.slice ae8 m8 d8]),(fun w v=>Rq w v (tropV (((n:Int):Rat)))),(fun w v=>∃g,v= .pointer (some ⟨g,0,none⟩)∧w9.heap.size≤g∧Own w g [.bool false,.slice none 0 0,.slice none 0 0]),(fun w v=>∃g,v= .pointer (some ⟨g,0,none⟩)∧w9.heap.size≤g∧Own w g [.bool false,.slice none 0 0,.slice none 0 0])] [4,5] (by decide+kernel) (by decide+kernel) rfl rfl rfl ⟨(Mb.eq _),(fun _ _ _ h hb=>h.below hb),(Mb.eq _),(fun _ _ _ h hb=>h.below hb),(fun _ _ _ ⟨g,e,l,o⟩ hb=>⟨g,e,l,o.below hb⟩),(fun _ _ _ ⟨g,e,l,o⟩ hb=>⟨g,e,l,o.below hb⟩),trivial⟩ ⟨fun _ _ ⟨g,e,_,o⟩=>⟨g,e,o.lt⟩,⟨fun _ _ ⟨g,e,_,o⟩=>⟨g,e,o.lt⟩,trivial⟩⟩ ⟨?_,?_,?_,?_,?_,?_,trivial⟩ ?_
 ·intro a' w' hF' hb hd
  exact dv0 (r_load (hF'.at 0 rfl) (ld_all ty_Rat ((st.bk 0 rfl).below hb) rfl)) rfl rfl rfl
 ·intro a' w' hF' hb hd
  have e17:=sHe hd 0 17 rfl rfl rfl rfl
  exact dc0 (r_call Tryz.func79 en79.1 en79.2 (map1 e17)) (reanomaly_any _ _ 2 _ ((st.f 0 rfl).below hb) (rlim_int (limz_64 (by omega) (by omega)) (by omega)) (by omega)) rfl rfl
 ·intro a' w' hF' hb hd
  exact dv0 (r_load (hF'.at 0 rfl) (ld_all ty_Rat ((st.bk 0 rfl).below hb) rfl)) rfl rfl rfl
 ·intro a' w' hF' hb hd
  have e19:=sHe hd 0 19 rfl rfl rfl rfl
  exact dc0 (r_call Tryz.func16 en16.1 en16.2 (map1 e19)) (reTropical_any _ _ 2 _ (hT.below (below_to st.bel hb)) ((st.f 0 rfl).below hb) (rlim_int (limz_64 (by omega) (by omega)) (by omega)) (by omega)) rfl rfl
 ·intro a' w' hF' hb hd
  exact da0 ty_Rat rfl hb.size rfl
 ·intro a' w' hF' hb hd
  exact da0 ty_Rat rfl hb.size rfl
 intro a w10 hF bb hall hne
 have s0:=st
 replace st:=st.to bb
 obtain⟨vv11,e18,hh12⟩:=sS hall 1 18 rfl rfl
 replace st:=st.add hh12 (Rq.cl _)
 clear hh12
 obtain⟨vv13,e20,hh14⟩:=sS hall 3 20 rfl rfl
 replace st:=st.add hh14 (Rq.cl _)
 clear hh14
 obtain⟨_,e10,g10,rfl,ge10,o10⟩:=sS hall 4 10 rfl rfl
 replace st:=st.push o10.blk (Nat.le_trans s0.bel.size ge10) (s0.ne ge10)
 clear o10
 obtain⟨_,e11,g11,rfl,ge11,o11⟩:=sS hall 5 11 rfl rfl
 replace st:=st.push o11.blk (Nat.le_trans s0.bel.size ge11) (ne_cons (fun(e:g10=g11)=>hne 4 5 10 11 rfl rfl (by decide) rfl rfl (by rw[e10,e11,e])) (s0.ne ge11))
 clear o11
 clear hall hne bb s0
 obtain⟨b15,ad15,n15,c15,ae15,m15,d15,rfl⟩:=Rq.form (st.f 1 rfl)
 replace hF:=hF.add e18
 clear e18
 obtain⟨b16,ad16,n16,c16,ae16,m16,d16,rfl⟩:=Rq.form (st.f 0 rfl)
 replace hF:=hF.add e20
 clear e20
 replace hF:=hF.add e10
 clear e10
 replace hF:=hF.add e11
 clear e11
 refine S.sto st hF 1 rfl (hF.at 1 rfl) (hF.at 3 rfl) ty_Rat rfl rfl rfl rfl fun w17 a st hF=>?_
 refine S.sto st hF 0 rfl (hF.at 0 rfl) (hF.at 2 rfl) ty_Rat rfl rfl rfl rfl fun w18 a st hF=>?_
 refine E.nil ?_
 refine wp_seq ?_
 refine E.drawn 8 mixed hF [21,22,23,24,25,26,27,12] [(fun _ v=>v= .agg #[.int .i64 463,.int .i64 20,.int .i64 45461,.int .i64 600]),(fun w v=>Rq w v (((45461:Int):Rat)/((600:Int):Rat))),(fun _ v=>v= .agg #[.int .i64 xa,.int .i64 xb,.int .i64 xc,.int .i64 xd]),(fun w v=>Rq w v (((xc:Int):Rat)/((xd:Int):Rat))),(fun w v=>Rq w v ((((45461:Int):Rat)/((600:Int):Rat))-(((xc:Int):Rat)/((xd:Int):Rat)))),(fun w v=>Rq w v (((1:Int):Rat)/((360:Int):Rat))),(fun w v=>Rq w v (((((45461:Int):Rat)/((600:Int):Rat))-(((xc:Int):Rat)/((xd:Int):Rat)))*(((1:Int):Rat)/((360:Int):Rat)))),(fun w v=>∃g,v= .pointer (some ⟨g,0,none⟩)∧w18.heap.size≤g∧Own w g [.bool false,.slice none 0 0,.slice none 0 0])] [7] (by decide+kernel) (by decide+kernel) rfl rfl rfl ⟨(Mb.eq _),(fun _ _ _ h hb=>h.below hb),(Mb.eq _),(fun _ _ _ h hb=>h.below hb),(fun _ _ _ h hb=>h.below hb),(fun _ _ _ h hb=>h.below hb),(fun _ _ _ h hb=>h.below hb),(fun _ _ _ ⟨g,e,l,o⟩ hb=>⟨g,e,l,o.below hb⟩),trivial⟩ ⟨fun _ _ ⟨g,e,_,o⟩=>⟨g,e,o.lt⟩,trivial⟩ ⟨?_,?_,?_,?_,?_,?_,?_,?_,trivial⟩ ?_
 ·intro a' w' hF' hb hd
  exact dcx0 (r_call Tryz.func49 en49.1 en49.2 map0) (pUj_any _) (fun _=>rfl) rfl rfl
 ·intro a' w' hF' hb hd
  have e21:=sHe hd 0 21 rfl rfl rfl rfl
  exact dc0 (r_call Tryz.func39 en39.1 en39.2 (map1 e21)) (pLongitude_any 463 20 45461 600 _ (by decide) (by decide) (by decide) (by decide)) rfl rfl
 ·intro a' w' hF' hb hd
  exact dv0 (r_load (hF'.at 9 rfl) (ld_all ty_Plc ((st.bk 5 rfl).below hb) rfl)) rfl rfl rfl
 ·intro a' w' hF' hb hd
  have e23:=sHe hd 0 23 rfl rfl rfl rfl
  exact dc0 (r_call Tryz.func39 en39.1 en39.2 (map1 e23)) (pLongitude_any xa xb xc xd _ (by have:=hp.c0;have:=hp.c1;have:=hp.b1;have:=hp.d1;omega) (by have:=hp.c0;have:=hp.c1;have:=hp.b1;have:=hp.d1;omega) (by have:=hp.d0;have:=hp.d1;have:=hp.b1;have:=hp.d1;omega) (by have:=hp.d0;have:=hp.d1;have:=hp.b1;have:=hp.d1;omega)) rfl rfl
 ·intro a' w' hF' hb hd
  obtain⟨v22_0,e22,h22_1⟩:=sH hd 0 22 rfl rfl rfl rfl
  obtain⟨v24_0,e24,h24_1⟩:=sH hd 1 24 rfl rfl rfl rfl
  exact dc0 (r_call Tryz.func36 en36.1 en36.2 (map2 e22 e24)) (rSub_any _ _ _ _ 2 _ h22_1 h24_1 ((lim64q (n:=45461) (d:=600) (by decide) (by decide) (by decide) (by decide)).up _ (by omega)) ((lim64q (n:=xc) (d:=xd) (by have:=hp.c0;have:=hp.c1;have:=hp.b1;have:=hp.d1;omega) (by have:=hp.c0;have:=hp.c1;have:=hp.b1;have:=hp.d1;omega) (by have:=hp.d0;have:=hp.d1;have:=hp.b1;have:=hp.d1;omega) (by have:=hp.d0;have:=hp.d1;have:=hp.b1;have:=hp.d1;omega)).up _ (by omega)) (by omega)) rfl rfl
 ·intro a' w' hF' hb hd
  exact dc0 (r_call Tryz.func38 en38.1 en38.2 (map2 ev_c ev_c)) (rOf2_any (1) (360) _ (by decide) (by decide) (by decide) (by decide)) rfl rfl
 ·intro a' w' hF' hb hd
  obtain⟨v25_0,e25,h25_1⟩:=sH hd 0 25 rfl rfl rfl rfl
  obtain⟨v26_0,e26,h26_1⟩:=sH hd 1 26 rfl rfl rfl rfl
  exact dc0 (r_call Tryz.func52 en52.1 en52.2 (map2 e25 e26)) (rMul_any _ _ _ _ (max (2+2+1) 2) _ h25_1 h26_1 ((rlim_sub (lim64q (n:=45461) (d:=600) (by decide) (by decide) (by decide) (by decide)) (lim64q (n:=xc) (d:=xd) (by have:=hp.c0;have:=hp.c1;have:=hp.b1;have:=hp.d1;omega) (by have:=hp.c0;have:=hp.c1;have:=hp.b1;have:=hp.d1;omega) (by have:=hp.d0;have:=hp.d1;have:=hp.b1;have:=hp.d1;omega) (by have:=hp.d0;have:=hp.d1;have:=hp.b1;have:=hp.d1;omega))).up _ (by omega)) ((RLim.up (rlim_mk2 (limz_64 (by decide) (by decide)) (limz_64 (by decide) (by decide))) 2 (by decide)).up _ (by omega)) (by omega)) rfl rfl
 ·intro a' w' hF' hb hd
  exact da0 ty_Rat rfl hb.size rfl
 intro a w19 hF bb hall hne
 have s0:=st
 replace st:=st.to bb
 obtain⟨vv20,e27,hh21⟩:=sS hall 6 27 rfl rfl
 replace st:=st.add hh21 (Rq.cl _)
 clear hh21
 obtain⟨_,e12,g12,rfl,ge12,o12⟩:=sS hall 7 12 rfl rfl
 replace st:=st.push o12.blk (Nat.le_trans s0.bel.size ge12) (s0.ne ge12)
 clear o12
 clear hall hne bb s0
 obtain⟨b22,ad22,n22,c22,ae22,m22,d22,rfl⟩:=Rq.form (st.f 0 rfl)
 replace hF:=hF.add e27
 clear e27
 replace hF:=hF.add e12
 clear e12
 refine S.sto st hF 0 rfl (hF.at 0 rfl) (hF.at 1 rfl) ty_Rat rfl rfl rfl rfl fun w23 a st hF=>?_
 refine E.nil ?_
 refine wp_seq ?_
 refine E.drawn 15 mixed hF [28,29,30,31,32,33,34,35,36,37,38,39,40,41,13] [(fun _ v=>v= .agg #[.bool b3,.slice ad3 n3 c3,.slice ae3 m3 d3]),(fun _ v=>v= .agg #[.bool b15,.slice ad15 n15 c15,.slice ae15 m15 d15]),(fun w v=>Rq w v (motQ (mof (((n:Int):Rat)) pay))),(fun w v=>Rq w v ((((3:Int):Rat)/((4:Int):Rat))*(motQ (mof (((n:Int):Rat)) pay)))),(fun _ v=>v= .agg #[.bool b16,.slice ad16 n16 c16,.slice ae16 m16 d16]),(fun w v=>Rq w v (risQ (tropV (((n:Int):Rat))))),(fun w v=>Rq w v (((((3:Int):Rat)/((4:Int):Rat))*(motQ (mof (((n:Int):Rat)) pay)))*(risQ (tropV (((n:Int):Rat)))))),(fun _ v=>v= .agg #[.bool b16,.slice ad16 n16 c16,.slice ae16 m16 d16]),(fun _ v=>v= .agg #[.int .i64 xa,.int .i64 xb,.int .i64 xc,.int .i64 xd]),(fun w v=>Rq w v (diffQ (tropV (((n:Int):Rat))) (((xa:Int):Rat)/((xb:Int):Rat)))),(fun _ v=>v= .int .i64 (-1)),(fun w v=>Rq w v (((-1:Int):Rat))),(fun w v=>Rq w v ((diffQ (tropV (((n:Int):Rat))) (((xa:Int):Rat)/((xb:Int):Rat)))*(((-1:Int):Rat)))),(fun w v=>Rq w v ((((((3:Int):Rat)/((4:Int):Rat))*(motQ (mof (((n:Int):Rat)) pay)))*(risQ (tropV (((n:Int):Rat)))))+((diffQ (tropV (((n:Int):Rat))) (((xa:Int):Rat)/((xb:Int):Rat)))*(((-1:Int):Rat))))),(fun w v=>∃g,v= .pointer (some ⟨g,0,none⟩)∧w23.heap.size≤g∧Own w g [.bool false,.slice none 0 0,.slice none 0 0])] [14] (by decide+kernel) (by decide+kernel) rfl rfl rfl ⟨(Mb.eq _),(Mb.eq _),(fun _ _ _ h hb=>h.below hb),(fun _ _ _ h hb=>h.below hb),(Mb.eq _),(fun _ _ _ h hb=>h.below hb),(fun _ _ _ h hb=>h.below hb),(Mb.eq _),(Mb.eq _),(fun _ _ _ h hb=>h.below hb),(Mb.eq _),(fun _ _ _ h hb=>h.below hb),(fun _ _ _ h hb=>h.below hb),(fun _ _ _ h hb=>h.below hb),(fun _ _ _ ⟨g,e,l,o⟩ hb=>⟨g,e,l,o.below hb⟩),trivial⟩ ⟨fun _ _ ⟨g,e,_,o⟩=>⟨g,e,o.lt⟩,trivial⟩ ⟨?_,?_,?_,?_,?_,?_,?_,?_,?_,?_,?_,?_,?_,?_,?_,trivial⟩ ?_
 ·intro a' w' hF' hb hd
  exact dv0 (r_load (hF'.at 10 rfl) (ld_all ty_Rat ((st.bk 5 rfl).below hb) rfl)) rfl rfl rfl
 ·intro a' w' hF' hb hd
  exact dv0 (r_load (hF'.at 3 rfl) (ld_all ty_Rat ((st.bk 2 rfl).below hb) rfl)) rfl rfl rfl
 ·intro a' w' hF' hb hd
  have e29:=sHe hd 0 29 rfl rfl rfl rfl
  exact dc0 (r_call Tryz.func78 en78.1 en78.2 (map1 e29)) (remotion_any _ _ (2+2+5) _ (hT.below (below_to st.bel hb)) ((st.f 2 rfl).below hb) (mof_lim (rlim_int (limz_64 (by omega) (by omega)) (by omega)) pay_lim) (by omega)) rfl rfl
 ·intro a' w' hF' hb hd
  have e28:=sHe hd 0 28 rfl rfl rfl rfl
  obtain⟨v30_0,e30,h30_1⟩:=sH hd 1 30 rfl rfl rfl rfl
  exact dc0 (r_call Tryz.func52 en52.1 en52.2 (map2 e28 e30)) (rMul_any _ _ _ _ (max 2 ((2+2+5)+40)) _ (h1.below (below_to st.bel hb)) h30_1 ((lim64q (n:=3) (d:=4) (by decide) (by decide) (by decide) (by decide)).up _ (by omega)) ((motQ_lim (mof_lim (rlim_int (limz_64 (by omega) (by omega)) (by omega)) pay_lim)).up _ (by omega)) (by omega)) rfl rfl
 ·intro a' w' hF' hb hd
  exact dv0 (r_load (hF'.at 2 rfl) (ld_all ty_Rat ((st.bk 1 rfl).below hb) rfl)) rfl rfl rfl
 ·intro a' w' hF' hb hd
  have e32:=sHe hd 0 32 rfl rfl rfl rfl
  exact dc0 (r_call Tryz.func86 en86.1 en86.2 (map1 e32)) (rerising_any _ _ (5*2+180) _ ((st.f 1 rfl).below hb) (trop_lim (rlim_int (limz_64 (by omega) (by omega)) (by omega))) (by omega) (rmod_low c360_pos) (rmod_high c360_pos)) rfl rfl
 ·intro a' w' hF' hb hd
  obtain⟨v31_0,e31,h31_1⟩:=sH hd 0 31 rfl rfl rfl rfl
  obtain⟨v33_0,e33,h33_1⟩:=sH hd 1 33 rfl rfl rfl rfl
  exact dc0 (r_call Tryz.func52 en52.1 en52.2 (map2 e31 e33)) (rMul_any _ _ _ _ (max (2+((2+2+5)+40)) 1) _ h31_1 h33_1 ((rlim_mul (lim64q (n:=3) (d:=4) (by decide) (by decide) (by decide) (by decide)) (motQ_lim (mof_lim (rlim_int (limz_64 (by omega) (by omega)) (by omega)) pay_lim))).up _ (by omega)) ((risQ_lim _).up _ (by omega)) (by omega)) rfl rfl
 ·intro a' w' hF' hb hd
  exact dv0 (r_load (hF'.at 2 rfl) (ld_all ty_Rat ((st.bk 1 rfl).below hb) rfl)) rfl rfl rfl
 ·intro a' w' hF' hb hd
  exact dv0 (r_load (hF'.at 11 rfl) (ld_all ty_Plc ((st.bk 6 rfl).below hb) rfl)) rfl rfl rfl
 ·intro a' w' hF' hb hd
  have e35:=sHe hd 0 35 rfl rfl rfl rfl
  have e36:=sHe hd 1 36 rfl rfl rfl rfl
  exact dc0 (r_call Tryz.func89 en89.1 en89.2 (map2 e35 e36)) (redifference_any _ _ xa xb xc xd (5*2+180) _ (hT.below (below_to st.bel hb)) ((st.f 1 rfl).below hb) (trop_lim (rlim_int (limz_64 (by omega) (by omega)) (by omega))) (by omega) (by have:=hp.a0;have:=hp.a1;have:=hp.b1;have:=hp.d1;omega) (by have:=hp.a0;have:=hp.a1;have:=hp.b1;have:=hp.d1;omega) (by have:=hp.b0;have:=hp.b1;have:=hp.b1;have:=hp.d1;omega) (by have:=hp.b0;have:=hp.b1;have:=hp.b1;have:=hp.d1;omega)) rfl rfl
 ·intro a' w' hF' hb hd
  exact dv0 (r_move (hF'.at 15 rfl)) rfl rfl rfl
 ·intro a' w' hF' hb hd
  have e38:=sHe hd 0 38 rfl rfl rfl rfl
  exact dc0 (r_call Tryz.func41 en41.1 en41.2 (map1 e38)) (rWhole_any (-1) _ (by decide) (by decide)) rfl rfl
 ·intro a' w' hF' hb hd
  obtain⟨v37_0,e37,h37_1⟩:=sH hd 0 37 rfl rfl rfl rfl
  obtain⟨v39_0,e39,h39_1⟩:=sH hd 1 39 rfl rfl rfl rfl
  exact dc0 (r_call Tryz.func52 en52.1 en52.2 (map2 e37 e39)) (rMul_any _ _ _ _ (max (2*(5*2+180)+140) 2) _ h37_1 h39_1 ((diffQ_lim (trop_lim (rlim_int (limz_64 (by omega) (by omega)) (by omega))) (lim64q (n:=xa) (d:=xb) (by have:=hp.a0;have:=hp.a1;have:=hp.b1;have:=hp.d1;omega) (by have:=hp.a0;have:=hp.a1;have:=hp.b1;have:=hp.d1;omega) (by have:=hp.b0;have:=hp.b1;have:=hp.b1;have:=hp.d1;omega) (by have:=hp.b0;have:=hp.b1;have:=hp.b1;have:=hp.d1;omega)) (by decide)).up _ (by omega)) ((rlim_int (limz_64 (by decide) (by decide)) (by omega)).up _ (by omega)) (by omega)) rfl rfl
 ·intro a' w' hF' hb hd
  obtain⟨v34_0,e34,h34_1⟩:=sH hd 0 34 rfl rfl rfl rfl
  obtain⟨v40_0,e40,h40_1⟩:=sH hd 1 40 rfl rfl rfl rfl
  exact dc0 (r_call Tryz.func51 en51.1 en51.2 (map2 e34 e40)) (rAdd_any _ _ _ _ (max ((2+((2+2+5)+40))+1) ((2*(5*2+180)+140)+2)) _ h34_1 h40_1 ((rlim_mul (rlim_mul (lim64q (n:=3) (d:=4) (by decide) (by decide) (by decide) (by decide)) (motQ_lim (mof_lim (rlim_int (limz_64 (by omega) (by omega)) (by omega)) pay_lim))) (risQ_lim _)).up _ (by omega)) ((rlim_mul (diffQ_lim (trop_lim (rlim_int (limz_64 (by omega) (by omega)) (by omega))) (lim64q (n:=xa) (d:=xb) (by have:=hp.a0;have:=hp.a1;have:=hp.b1;have:=hp.d1;omega) (by have:=hp.a0;have:=hp.a1;have:=hp.b1;have:=hp.d1;omega) (by have:=hp.b0;have:=hp.b1;have:=hp.b1;have:=hp.d1;omega) (by have:=hp.b0;have:=hp.b1;have:=hp.b1;have:=hp.d1;omega)) (by decide)) (rlim_int (limz_64 (by decide) (by decide)) (by omega))).up _ (by omega)) (by omega)) rfl rfl
 ·intro a' w' hF' hb hd
  exact da0 ty_Rat rfl hb.size rfl
 intro a w24 hF bb hall hne
 have s0:=st
 replace st:=st.to bb
 obtain⟨vv25,e41,hh26⟩:=sS hall 13 41 rfl rfl
 replace st:=st.add hh26 (Rq.cl _)
 clear hh26
 obtain⟨_,e13,g13,rfl,ge13,o13⟩:=sS hall 14 13 rfl rfl
 replace st:=st.push o13.blk (Nat.le_trans s0.bel.size ge13) (s0.ne ge13)
 clear o13
 clear hall hne bb s0
 obtain⟨b27,ad27,n27,c27,ae27,m27,d27,rfl⟩:=Rq.form (st.f 0 rfl)
 replace hF:=hF.add e41
 clear e41
 replace hF:=hF.add e13
 clear e13
 refine S.sto st hF 0 rfl (hF.at 0 rfl) (hF.at 1 rfl) ty_Rat rfl rfl rfl rfl fun w28 a st hF=>?_
 refine E.nil ?_
 refine wp_seq ?_
 refine E.drawn 6 mixed hF [42,43,44,45,46,14] [(fun w v=>Rq w v (((1577917828:Int):Rat)/((1582237828:Int):Rat))),(fun w v=>Rq w v (((1:Int):Rat)/((360:Int):Rat))),(fun w v=>Rq w v ((((1577917828:Int):Rat)/((1582237828:Int):Rat))*(((1:Int):Rat)/((360:Int):Rat)))),(fun _ v=>v= .agg #[.bool b27,.slice ad27 n27 c27,.slice ae27 m27 d27]),(fun w v=>Rq w v (((((1577917828:Int):Rat)/((1582237828:Int):Rat))*(((1:Int):Rat)/((360:Int):Rat)))*((((((3:Int):Rat)/((4:Int):Rat))*(motQ (mof (((n:Int):Rat)) pay)))*(risQ (tropV (((n:Int):Rat)))))+((diffQ (tropV (((n:Int):Rat))) (((xa:Int):Rat)/((xb:Int):Rat)))*(((-1:Int):Rat)))))),(fun w v=>∃g,v= .pointer (some ⟨g,0,none⟩)∧w28.heap.size≤g∧Own w g [.bool false,.slice none 0 0,.slice none 0 0])] [5] (by decide+kernel) (by decide+kernel) rfl rfl rfl ⟨(fun _ _ _ h hb=>h.below hb),(fun _ _ _ h hb=>h.below hb),(fun _ _ _ h hb=>h.below hb),(Mb.eq _),(fun _ _ _ h hb=>h.below hb),(fun _ _ _ ⟨g,e,l,o⟩ hb=>⟨g,e,l,o.below hb⟩),trivial⟩ ⟨fun _ _ ⟨g,e,_,o⟩=>⟨g,e,o.lt⟩,trivial⟩ ⟨?_,?_,?_,?_,?_,?_,trivial⟩ ?_
 ·intro a' w' hF' hb hd
  exact dc0 (r_call Tryz.func38 en38.1 en38.2 (map2 ev_c ev_c)) (rOf2_any (1577917828) (1582237828) _ (by decide) (by decide) (by decide) (by decide)) rfl rfl
 ·intro a' w' hF' hb hd
  exact dc0 (r_call Tryz.func38 en38.1 en38.2 (map2 ev_c ev_c)) (rOf2_any (1) (360) _ (by decide) (by decide) (by decide) (by decide)) rfl rfl
 ·intro a' w' hF' hb hd
  obtain⟨v42_0,e42,h42_1⟩:=sH hd 0 42 rfl rfl rfl rfl
  obtain⟨v43_0,e43,h43_1⟩:=sH hd 1 43 rfl rfl rfl rfl
  exact dc0 (r_call Tryz.func52 en52.1 en52.2 (map2 e42 e43)) (rMul_any _ _ _ _ 2 _ h42_1 h43_1 ((RLim.up (rlim_mk2 (limz_64 (by decide) (by decide)) (limz_64 (by decide) (by decide))) 2 (by decide)).up _ (by omega)) ((RLim.up (rlim_mk2 (limz_64 (by decide) (by decide)) (limz_64 (by decide) (by decide))) 2 (by decide)).up _ (by omega)) (by omega)) rfl rfl
 ·intro a' w' hF' hb hd
  exact dv0 (r_load (hF'.at 0 rfl) (ld_all ty_Rat ((st.bk 0 rfl).below hb) rfl)) rfl rfl rfl
 ·intro a' w' hF' hb hd
  obtain⟨v44_0,e44,h44_1⟩:=sH hd 0 44 rfl rfl rfl rfl
  have e45:=sHe hd 1 45 rfl rfl rfl rfl
  exact dc0 (r_call Tryz.func52 en52.1 en52.2 (map2 e44 e45)) (rMul_any _ _ _ _ (max (2+2) (((2+((2+2+5)+40))+1)+((2*(5*2+180)+140)+2)+1)) _ h44_1 ((st.f 0 rfl).below hb) ((rlim_mul (RLim.up (rlim_mk2 (limz_64 (by decide) (by decide)) (limz_64 (by decide) (by decide))) 2 (by decide)) (RLim.up (rlim_mk2 (limz_64 (by decide) (by decide)) (limz_64 (by decide) (by decide))) 2 (by decide))).up _ (by omega)) ((rlim_add (rlim_mul (rlim_mul (lim64q (n:=3) (d:=4) (by decide) (by decide) (by decide) (by decide)) (motQ_lim (mof_lim (rlim_int (limz_64 (by omega) (by omega)) (by omega)) pay_lim))) (risQ_lim _)) (rlim_mul (diffQ_lim (trop_lim (rlim_int (limz_64 (by omega) (by omega)) (by omega))) (lim64q (n:=xa) (d:=xb) (by have:=hp.a0;have:=hp.a1;have:=hp.b1;have:=hp.d1;omega) (by have:=hp.a0;have:=hp.a1;have:=hp.b1;have:=hp.d1;omega) (by have:=hp.b0;have:=hp.b1;have:=hp.b1;have:=hp.d1;omega) (by have:=hp.b0;have:=hp.b1;have:=hp.b1;have:=hp.d1;omega)) (by decide)) (rlim_int (limz_64 (by decide) (by decide)) (by omega)))).up _ (by omega)) (by omega)) rfl rfl
 ·intro a' w' hF' hb hd
  exact da0 ty_Rat rfl hb.size rfl
 intro a w29 hF bb hall hne
 have s0:=st
 replace st:=st.to bb
 obtain⟨vv30,e46,hh31⟩:=sS hall 4 46 rfl rfl
 replace st:=st.add hh31 (Rq.cl _)
 clear hh31
 obtain⟨_,e14,g14,rfl,ge14,o14⟩:=sS hall 5 14 rfl rfl
 replace st:=st.push o14.blk (Nat.le_trans s0.bel.size ge14) (s0.ne ge14)
 clear o14
 clear hall hne bb s0
 obtain⟨b32,ad32,n32,c32,ae32,m32,d32,rfl⟩:=Rq.form (st.f 0 rfl)
 replace hF:=hF.add e46
 clear e46
 replace hF:=hF.add e14
 clear e14
 refine S.sto st hF 0 rfl (hF.at 0 rfl) (hF.at 1 rfl) ty_Rat rfl rfl rfl rfl fun w33 a st hF=>?_
 refine E.nil ?_
 refine wp_seq ?_
 refine E.drawn 9 mixed hF [47,48,49,50,51,52,53,54,55] [(fun _ v=>v= .agg #[.bool b8,.slice ad8 n8 c8,.slice ae8 m8 d8]),(fun _ v=>v= .agg #[.bool b3,.slice ad3 n3 c3,.slice ae3 m3 d3]),(fun _ v=>v= .agg #[.bool b22,.slice ad22 n22 c22,.slice ae22 m22 d22]),(fun _ v=>v= .agg #[.bool b15,.slice ad15 n15 c15,.slice ae15 m15 d15]),(fun w v=>Rq w v (eqnQ (mof (((n:Int):Rat)) pay))),(fun w v=>Rq w v (-(eqnQ (mof (((n:Int):Rat)) pay)))),(fun _ v=>v= .agg #[.bool b32,.slice ad32 n32 c32,.slice ae32 m32 d32]),(fun w v=>QRow w v [((n:Int):Rat),((3:Int):Rat)/((4:Int):Rat),((((45461:Int):Rat)/((600:Int):Rat))-(((xc:Int):Rat)/((xd:Int):Rat)))*(((1:Int):Rat)/((360:Int):Rat)), -(eqnQ (mof (((n:Int):Rat)) pay)),((((1577917828:Int):Rat)/((1582237828:Int):Rat))*(((1:Int):Rat)/((360:Int):Rat)))*((((((3:Int):Rat)/((4:Int):Rat))*(motQ (mof (((n:Int):Rat)) pay)))*(risQ (tropV (((n:Int):Rat)))))+((diffQ (tropV (((n:Int):Rat))) (((xa:Int):Rat)/((xb:Int):Rat)))*(((-1:Int):Rat))))]),(fun w v=>Rq w v ((((n:Int):Rat))+(((3:Int):Rat)/((4:Int):Rat))+(((((45461:Int):Rat)/((600:Int):Rat))-(((xc:Int):Rat)/((xd:Int):Rat)))*(((1:Int):Rat)/((360:Int):Rat)))+(-(eqnQ (mof (((n:Int):Rat)) pay)))+(((((1577917828:Int):Rat)/((1582237828:Int):Rat))*(((1:Int):Rat)/((360:Int):Rat)))*((((((3:Int):Rat)/((4:Int):Rat))*(motQ (mof (((n:Int):Rat)) pay)))*(risQ (tropV (((n:Int):Rat)))))+((diffQ (tropV (((n:Int):Rat))) (((xa:Int):Rat)/((xb:Int):Rat)))*(((-1:Int):Rat)))))))] [] (by decide+kernel) (by decide+kernel) rfl rfl rfl ⟨(Mb.eq _),(Mb.eq _),(Mb.eq _),(Mb.eq _),(fun _ _ _ h hb=>h.below hb),(fun _ _ _ h hb=>h.below hb),(Mb.eq _),(QRow.mono _),(fun _ _ _ h hb=>h.below hb),trivial⟩ trivial ⟨?_,?_,?_,?_,?_,?_,?_,?_,?_,trivial⟩ ?_
 ·intro a' w' hF' hb hd
  exact dv0 (r_load (hF'.at 10 rfl) (ld_all ty_Rat ((st.bk 5 rfl).below hb) rfl)) rfl rfl rfl
 ·intro a' w' hF' hb hd
  exact dv0 (r_load (hF'.at 14 rfl) (ld_all ty_Rat ((st.bk 7 rfl).below hb) rfl)) rfl rfl rfl
 ·intro a' w' hF' hb hd
  exact dv0 (r_load (hF'.at 4 rfl) (ld_all ty_Rat ((st.bk 2 rfl).below hb) rfl)) rfl rfl rfl
 ·intro a' w' hF' hb hd
  exact dv0 (r_load (hF'.at 7 rfl) (ld_all ty_Rat ((st.bk 4 rfl).below hb) rfl)) rfl rfl rfl
 ·intro a' w' hF' hb hd
  have e50:=sHe hd 0 50 rfl rfl rfl rfl
  exact dc0 (r_call Tryz.func88 en88.1 en88.2 (map1 e50)) (reequation_any _ _ (2+2+5) _ (hT.below (below_to st.bel hb)) ((st.f 4 rfl).below hb) (mof_lim (rlim_int (limz_64 (by omega) (by omega)) (by omega)) pay_lim) (by omega)) rfl rfl
 ·intro a' w' hF' hb hd
  obtain⟨v51_0,e51,h51_1⟩:=sH hd 0 51 rfl rfl rfl rfl
  exact dc0 (r_call Tryz.func100 en100.1 en100.2 (map1 e51)) (rOpp_any _ _ _ h51_1) rfl rfl
 ·intro a' w' hF' hb hd
  exact dv0 (r_load (hF'.at 0 rfl) (ld_all ty_Rat ((st.bk 0 rfl).below hb) rfl)) rfl rfl rfl
 ·intro a' w' hF' hb hd
  have e47:=sHe hd 0 47 rfl rfl rfl rfl
  have e48:=sHe hd 1 48 rfl rfl rfl rfl
  have e49:=sHe hd 2 49 rfl rfl rfl rfl
  obtain⟨v52_0,e52,h52_1⟩:=sH hd 3 52 rfl rfl rfl rfl
  have e53:=sHe hd 4 53 rfl rfl rfl rfl
  obtain⟨vq,w2,hr,bb,hq⟩:=bs_rats5 ((st.f 5 rfl).below hb) (h1.below (below_to st.bel hb)) ((st.f 2 rfl).below hb) h52_1 ((st.f 0 rfl).below hb)
  exact if_does (wanted_free rfl) (Does.vals (r_buildSlice (pair5 e47 e48 e49 e52 e53) hr) ⟨hq,bb,(fun h=>absurd h (by decide))⟩)
 ·intro a' w' hF' hb hd
  obtain⟨v54_0,e54,h54_1⟩:=sH hd 0 54 rfl rfl rfl rfl
  exact dc0 (r_call Tryz.func50 en50.1 en50.2 (map1 e54)) (rSum5 _ (((n:Int):Rat)) (((3:Int):Rat)/((4:Int):Rat)) (((((45461:Int):Rat)/((600:Int):Rat))-(((xc:Int):Rat)/((xd:Int):Rat)))*(((1:Int):Rat)/((360:Int):Rat))) (-(eqnQ (mof (((n:Int):Rat)) pay))) (((((1577917828:Int):Rat)/((1582237828:Int):Rat))*(((1:Int):Rat)/((360:Int):Rat)))*((((((3:Int):Rat)/((4:Int):Rat))*(motQ (mof (((n:Int):Rat)) pay)))*(risQ (tropV (((n:Int):Rat)))))+((diffQ (tropV (((n:Int):Rat))) (((xa:Int):Rat)/((xb:Int):Rat)))*(((-1:Int):Rat))))) (max (max (max 2 ((2+2+1)+2)) (3*(2+2+5)+100)) ((2+2)+(((2+((2+2+5)+40))+1)+((2*(5*2+180)+140)+2)+1))) _ h54_1 ((rlim_int (limz_64 (by omega) (by omega)) (by omega)).up _ (by omega)) ((lim64q (n:=3) (d:=4) (by decide) (by decide) (by decide) (by decide)).up _ (by omega)) ((rlim_mul (rlim_sub (lim64q (n:=45461) (d:=600) (by decide) (by decide) (by decide) (by decide)) (lim64q (n:=xc) (d:=xd) (by have:=hp.c0;have:=hp.c1;have:=hp.b1;have:=hp.d1;omega) (by have:=hp.c0;have:=hp.c1;have:=hp.b1;have:=hp.d1;omega) (by have:=hp.d0;have:=hp.d1;have:=hp.b1;have:=hp.d1;omega) (by have:=hp.d0;have:=hp.d1;have:=hp.b1;have:=hp.d1;omega))) (RLim.up (rlim_mk2 (limz_64 (by decide) (by decide)) (limz_64 (by decide) (by decide))) 2 (by decide))).up _ (by omega)) ((rlim_neg (eqnQ_lim (mof_lim (rlim_int (limz_64 (by omega) (by omega)) (by omega)) pay_lim))).up _ (by omega)) ((rlim_mul (rlim_mul (RLim.up (rlim_mk2 (limz_64 (by decide) (by decide)) (limz_64 (by decide) (by decide))) 2 (by decide)) (RLim.up (rlim_mk2 (limz_64 (by decide) (by decide)) (limz_64 (by decide) (by decide))) 2 (by decide))) (rlim_add (rlim_mul (rlim_mul (lim64q (n:=3) (d:=4) (by decide) (by decide) (by decide) (by decide)) (motQ_lim (mof_lim (rlim_int (limz_64 (by omega) (by omega)) (by omega)) pay_lim))) (risQ_lim _)) (rlim_mul (diffQ_lim (trop_lim (rlim_int (limz_64 (by omega) (by omega)) (by omega))) (lim64q (n:=xa) (d:=xb) (by have:=hp.a0;have:=hp.a1;have:=hp.b1;have:=hp.d1;omega) (by have:=hp.a0;have:=hp.a1;have:=hp.b1;have:=hp.d1;omega) (by have:=hp.b0;have:=hp.b1;have:=hp.b1;have:=hp.d1;omega) (by have:=hp.b0;have:=hp.b1;have:=hp.b1;have:=hp.d1;omega)) (by decide)) (rlim_int (limz_64 (by decide) (by decide)) (by omega))))).up _ (by omega)) (by omega)) rfl rfl
 intro a w34 hF bb hall hne
 replace st:=st.to bb
 obtain⟨vv35,e55,hh36⟩:=sS hall 8 55 rfl rfl
 replace st:=st.add hh36 (Rq.cl _)
 clear hh36
 clear hall hne bb
 obtain⟨b37,ad37,n37,c37,ae37,m37,d37,rfl⟩:=Rq.form (st.f 0 rfl)
 replace hF:=hF.add e55
 clear e55
 refine S.sto st hF 6 rfl (hF.at 14 rfl) (hF.at 0 rfl) ty_Rat rfl rfl rfl rfl fun w38 a st hF=>?_
 refine E.nil ?_
 refine wp_ret ?_
 refine S.ret Tryz.results99 st hF (hF.at 14 rfl) 6 rfl ty_Rat rfl hF.dfr ?_
 have bel:=st.bel
 exact⟨_,rfl,Rq.castM (st.f 0 rfl) (cross_eq _ _ _ 3 (-1) _ rfl),bel⟩
theorem reDawn_any (n xa xb xc xd:Int) (w:World) (hT:TabD w) (hp:PlOk xa xb xc xd) (hn0: -4000000≤n) (hn1:n≤4000000):
 Calls Tryz.prog 32 #[.int .i64 n,.agg #[.int .i64 xa,.int .i64 xb,.int .i64 xc,.int .i64 xd]] w (RqPost w (dawV n xa xb xc xd)):=by
 have st:=St.start w
 refine E.enter (nt:=9) (L:=[(0,.int .i64 n),(1,.agg #[.int .i64 xa,.int .i64 xb,.int .i64 xc,.int .i64 xd])]) Tryz.func32 rfl rfl rfl (args_cons (i:=0) rfl (args_cons (i:=1) rfl args_nil)) ?_
 intro a hF
 refine wp_seq ?_
 refine E.seq ?_
 refine S.box st hF (hF.at 1 rfl) rfl rfl fun g3 w1 a st hF=>?_
 refine S.alloc st hF ty_Rat rfl rfl fun g4 w2 a st hF=>?_
 refine E.nil ?_
 refine wp_seq ?_
 refine E.drawn 4 mixed hF [5,6,7,8] [(fun _ v=>v= .int .i64 n),(fun _ v=>v= .agg #[.int .i64 xa,.int .i64 xb,.int .i64 xc,.int .i64 xd]),(fun w v=>Rq w v (((1:Int):Rat)/((4:Int):Rat))),(fun w v=>Rq w v (dawV n xa xb xc xd))] [] (by decide+kernel) (by decide+kernel) rfl rfl rfl ⟨(Mb.eq _),(Mb.eq _),(fun _ _ _ h hb=>h.below hb),(fun _ _ _ h hb=>h.below hb),trivial⟩ trivial ⟨?_,?_,?_,?_,trivial⟩ ?_
 ·intro a' w' hF' hb hd
  exact dv0 (r_move (hF'.at 2 rfl)) rfl rfl rfl
 ·intro a' w' hF' hb hd
  exact dv0 (r_load (hF'.at 1 rfl) (ld_all ty_Plc ((st.bk 1 rfl).below hb) rfl)) rfl rfl rfl
 ·intro a' w' hF' hb hd
  exact dc0 (r_call Tryz.func38 en38.1 en38.2 (map2 ev_c ev_c)) (rOf2_any (1) (4) _ (by decide) (by decide) (by decide) (by decide)) rfl rfl
 ·intro a' w' hF' hb hd
  have e5:=sHe hd 0 5 rfl rfl rfl rfl
  have e6:=sHe hd 1 6 rfl rfl rfl rfl
  obtain⟨v7_0,e7,h7_1⟩:=sH hd 2 7 rfl rfl rfl rfl
  exact dc0 (r_call Tryz.func99 en99.1 en99.2 (map4 e5 e6 e7 ev_c)) (recross_daw _ n xa xb xc xd _ (hT.below (below_to st.bel hb)) h7_1 (by first|assumption|exact⟨by omega,by omega,by omega,by omega,by omega,by omega,by omega,by omega⟩) (by omega) (by omega)) rfl rfl
 intro a w3 hF bb hall hne
 replace st:=st.to bb
 obtain⟨vv4,e8,hh5⟩:=sS hall 3 8 rfl rfl
 replace st:=st.add hh5 (Rq.cl _)
 clear hh5
 clear hall hne bb
 obtain⟨b6,ad6,n6,c6,ae6,m6,d6,rfl⟩:=Rq.form (st.f 0 rfl)
 replace hF:=hF.add e8
 clear e8
 refine S.sto st hF 0 rfl (hF.at 1 rfl) (hF.at 0 rfl) ty_Rat rfl rfl rfl rfl fun w7 a st hF=>?_
 refine E.nil ?_
 refine wp_ret ?_
 refine S.ret Tryz.results32 st hF (hF.at 1 rfl) 0 rfl ty_Rat rfl hF.dfr ?_
 have bel:=st.bel
 exact⟨_,rfl,(st.f 0 rfl),bel⟩
theorem reDusk_any (n xa xb xc xd:Int) (w:World) (hT:TabD w) (hp:PlOk xa xb xc xd) (hn0: -4000000≤n) (hn1:n≤4000000):
 Calls Tryz.prog 33 #[.int .i64 n,.agg #[.int .i64 xa,.int .i64 xb,.int .i64 xc,.int .i64 xd]] w (RqPost w (dusV n xa xb xc xd)):=by
 have st:=St.start w
 refine E.enter (nt:=9) (L:=[(0,.int .i64 n),(1,.agg #[.int .i64 xa,.int .i64 xb,.int .i64 xc,.int .i64 xd])]) Tryz.func33 rfl rfl rfl (args_cons (i:=0) rfl (args_cons (i:=1) rfl args_nil)) ?_
 intro a hF
 refine wp_seq ?_
 refine E.seq ?_
 refine S.box st hF (hF.at 1 rfl) rfl rfl fun g3 w1 a st hF=>?_
 refine S.alloc st hF ty_Rat rfl rfl fun g4 w2 a st hF=>?_
 refine E.nil ?_
 refine wp_seq ?_
 refine E.drawn 4 mixed hF [5,6,7,8] [(fun _ v=>v= .int .i64 n),(fun _ v=>v= .agg #[.int .i64 xa,.int .i64 xb,.int .i64 xc,.int .i64 xd]),(fun w v=>Rq w v (((3:Int):Rat)/((4:Int):Rat))),(fun w v=>Rq w v (dusV n xa xb xc xd))] [] (by decide+kernel) (by decide+kernel) rfl rfl rfl ⟨(Mb.eq _),(Mb.eq _),(fun _ _ _ h hb=>h.below hb),(fun _ _ _ h hb=>h.below hb),trivial⟩ trivial ⟨?_,?_,?_,?_,trivial⟩ ?_
 ·intro a' w' hF' hb hd
  exact dv0 (r_move (hF'.at 2 rfl)) rfl rfl rfl
 ·intro a' w' hF' hb hd
  exact dv0 (r_load (hF'.at 1 rfl) (ld_all ty_Plc ((st.bk 1 rfl).below hb) rfl)) rfl rfl rfl
 ·intro a' w' hF' hb hd
  exact dc0 (r_call Tryz.func38 en38.1 en38.2 (map2 ev_c ev_c)) (rOf2_any (3) (4) _ (by decide) (by decide) (by decide) (by decide)) rfl rfl
 ·intro a' w' hF' hb hd
  have e5:=sHe hd 0 5 rfl rfl rfl rfl
  have e6:=sHe hd 1 6 rfl rfl rfl rfl
  obtain⟨v7_0,e7,h7_1⟩:=sH hd 2 7 rfl rfl rfl rfl
  exact dc0 (r_call Tryz.func99 en99.1 en99.2 (map4 e5 e6 e7 ev_c)) (recross_dus _ n xa xb xc xd _ (hT.below (below_to st.bel hb)) h7_1 (by first|assumption|exact⟨by omega,by omega,by omega,by omega,by omega,by omega,by omega,by omega⟩) (by omega) (by omega)) rfl rfl
 intro a w3 hF bb hall hne
 replace st:=st.to bb
 obtain⟨vv4,e8,hh5⟩:=sS hall 3 8 rfl rfl
 replace st:=st.add hh5 (Rq.cl _)
 clear hh5
 clear hall hne bb
 obtain⟨b6,ad6,n6,c6,ae6,m6,d6,rfl⟩:=Rq.form (st.f 0 rfl)
 replace hF:=hF.add e8
 clear e8
 refine S.sto st hF 0 rfl (hF.at 1 rfl) (hF.at 0 rfl) ty_Rat rfl rfl rfl rfl fun w7 a st hF=>?_
 refine E.nil ?_
 refine wp_ret ?_
 refine S.ret Tryz.results33 st hF (hF.at 1 rfl) 0 rfl ty_Rat rfl hF.dfr ?_
 have bel:=st.bel
 exact⟨_,rfl,(st.f 0 rfl),bel⟩
theorem reSunrise_any (n xa xb xc xd:Int) (w:World) (hT:TabD w) (hp:PlOk xa xb xc xd) (hn0: -4000000≤n) (hn1:n≤4000000):
 Calls Tryz.prog 34 #[.int .i64 n,.agg #[.int .i64 xa,.int .i64 xb,.int .i64 xc,.int .i64 xd]] w (RqPost w (grainV (dawV n xa xb xc xd))):=by
 have st:=St.start w
 refine E.enter (nt:=9) (L:=[(0,.int .i64 n),(1,.agg #[.int .i64 xa,.int .i64 xb,.int .i64 xc,.int .i64 xd])]) Tryz.func34 rfl rfl rfl (args_cons (i:=0) rfl (args_cons (i:=1) rfl args_nil)) ?_
 intro a hF
 refine wp_seq ?_
 refine E.seq ?_
 refine S.box st hF (hF.at 1 rfl) rfl rfl fun g3 w1 a st hF=>?_
 refine S.alloc st hF ty_Rat rfl rfl fun g4 w2 a st hF=>?_
 refine E.nil ?_
 refine wp_seq ?_
 refine E.seq ?_
 refine E.opv hF (r_move (hF.at 2 rfl)) rfl rfl rfl rfl fun a hF=>?_
 refine E.opv hF (r_load (hF.at 2 rfl) (ld_all ty_Plc (st.bk 1 rfl) rfl)) rfl rfl rfl rfl fun a hF=>?_
 refine S.call st hF (r_call Tryz.func32 en32.1 en32.2 (map2 (hF.at 1 rfl) (hF.at 0 rfl))) (reDawn_any n xa xb xc xd _ (hT.below st.bel) (by first|assumption|exact⟨by omega,by omega,by omega,by omega,by omega,by omega,by omega,by omega⟩) (by omega) (by omega)) (fun _ _ h=>h) Rq.cl rfl rfl rfl rfl fun vv4 w3 a st hF=>?_
 obtain⟨b6,ad6,n6,c6,ae6,m6,d6,rfl⟩:=Rq.form (st.f 0 rfl)
 refine S.call st hF (r_call Tryz.func27 en27.1 en27.2 (map1 (hF.at 0 rfl))) (reGrain_any _ _ 90 _ (st.f 0 rfl) (daw_lim (by first|assumption|exact⟨by omega,by omega,by omega,by omega,by omega,by omega,by omega,by omega⟩) (by omega) (by omega)) (by omega)) (fun _ _ h=>h) Rq.cl rfl rfl rfl rfl fun vv8 w7 a st hF=>?_
 obtain⟨b10,ad10,n10,c10,ae10,m10,d10,rfl⟩:=Rq.form (st.f 0 rfl)
 refine S.sto st hF 0 rfl (hF.at 4 rfl) (hF.at 0 rfl) ty_Rat rfl rfl rfl rfl fun w11 a st hF=>?_
 refine E.nil ?_
 refine wp_ret ?_
 refine S.ret Tryz.results34 st hF (hF.at 4 rfl) 0 rfl ty_Rat rfl hF.dfr ?_
 have bel:=st.bel
 exact⟨_,rfl,(st.f 0 rfl),bel⟩
theorem reSunset_any (n xa xb xc xd:Int) (w:World) (hT:TabD w) (hp:PlOk xa xb xc xd) (hn0: -4000000≤n) (hn1:n≤4000000):
 Calls Tryz.prog 35 #[.int .i64 n,.agg #[.int .i64 xa,.int .i64 xb,.int .i64 xc,.int .i64 xd]] w (RqPost w (grainV (dusV n xa xb xc xd))):=by
 have st:=St.start w
 refine E.enter (nt:=9) (L:=[(0,.int .i64 n),(1,.agg #[.int .i64 xa,.int .i64 xb,.int .i64 xc,.int .i64 xd])]) Tryz.func35 rfl rfl rfl (args_cons (i:=0) rfl (args_cons (i:=1) rfl args_nil)) ?_
 intro a hF
 refine wp_seq ?_
 refine E.seq ?_
 refine S.box st hF (hF.at 1 rfl) rfl rfl fun g3 w1 a st hF=>?_
 refine S.alloc st hF ty_Rat rfl rfl fun g4 w2 a st hF=>?_
 refine E.nil ?_
 refine wp_seq ?_
 refine E.seq ?_
 refine E.opv hF (r_move (hF.at 2 rfl)) rfl rfl rfl rfl fun a hF=>?_
 refine E.opv hF (r_load (hF.at 2 rfl) (ld_all ty_Plc (st.bk 1 rfl) rfl)) rfl rfl rfl rfl fun a hF=>?_
 refine S.call st hF (r_call Tryz.func33 en33.1 en33.2 (map2 (hF.at 1 rfl) (hF.at 0 rfl))) (reDusk_any n xa xb xc xd _ (hT.below st.bel) (by first|assumption|exact⟨by omega,by omega,by omega,by omega,by omega,by omega,by omega,by omega⟩) (by omega) (by omega)) (fun _ _ h=>h) Rq.cl rfl rfl rfl rfl fun vv4 w3 a st hF=>?_
 obtain⟨b6,ad6,n6,c6,ae6,m6,d6,rfl⟩:=Rq.form (st.f 0 rfl)
 refine S.call st hF (r_call Tryz.func27 en27.1 en27.2 (map1 (hF.at 0 rfl))) (reGrain_any _ _ 90 _ (st.f 0 rfl) (dus_lim (by first|assumption|exact⟨by omega,by omega,by omega,by omega,by omega,by omega,by omega,by omega⟩) (by omega) (by omega)) (by omega)) (fun _ _ h=>h) Rq.cl rfl rfl rfl rfl fun vv8 w7 a st hF=>?_
 obtain⟨b10,ad10,n10,c10,ae10,m10,d10,rfl⟩:=Rq.form (st.f 0 rfl)
 refine S.sto st hF 0 rfl (hF.at 4 rfl) (hF.at 0 rfl) ty_Rat rfl rfl rfl rfl fun w11 a st hF=>?_
 refine E.nil ?_
 refine wp_ret ?_
 refine S.ret Tryz.results35 st hF (hF.at 4 rfl) 0 rfl ty_Rat rfl hF.dfr ?_
 have bel:=st.bel
 exact⟨_,rfl,(st.f 0 rfl),bel⟩
theorem diff_flat5:diffV ((5:Int):Rat) (((0:Int):Rat)/((1:Int):Rat))=0:=by
 rw[show((0:Int):Rat)/((1:Int):Rat)=0 by decide+kernel];exact diff_flat _
theorem awake14_any (w:World) (hT:TabD w):
 Calls Tryz.prog 9 #[] w (ValPost w (.bool true)):=by
 have st:=St.start w
 refine E.enter (nt:=20) (L:=[]) Tryz.func9 rfl rfl rfl args_nil ?_
 intro a hF
 refine wp_seq ?_
 refine E.seq ?_
 refine E.opv hF (r_assign ev_c) rfl rfl rfl rfl fun a hF=>?_
 refine E.nil ?_
 refine wp_seq ?_
 refine E.seq ?_
 refine E.opv hF (r_build (pair2 ev_c ev_c) (bd_Plc_13 _ _ _)) rfl rfl rfl rfl fun a hF=>?_
 refine S.new st hF 0 rfl ty_Plc rfl rfl rfl rfl rfl fun g1 w1 a st hF=>?_
 refine E.nil ?_
 refine wp_seq ?_
 refine E.drawn 17 mixed hF [3,4,5,6,7,8,9,10,11,12,13,14,15,16,17,18,19] [(fun w v=>Rq w v (((1:Int):Rat)/((3:Int):Rat))),(fun w v=>Rq w v (grainV (((1:Int):Rat)/((3:Int):Rat)))),(fun w v=>Rq w v (((349525:Int):Rat)/((1048576:Int):Rat))),(fun _ v=>v= .bool true),(fun _ v=>v= .bool true),(fun w v=>Rq w v (((5:Int):Rat))),(fun _ v=>v= .agg #[.int .i64 0,.int .i64 1,.int .i64 0,.int .i64 1]),(fun w v=>Rq w v (diffV (((5:Int):Rat)) (((0:Int):Rat)/((1:Int):Rat)))),(fun _ v=>v= .int .i64 (sz (Rat.num (diffV (((5:Int):Rat)) (((0:Int):Rat)/((1:Int):Rat)))))),(fun _ v=>v= .bool true),(fun _ v=>v= .bool true),(fun _ v=>v= .bool true),(fun w v=>Rq w v ((((-1132959):Int):Rat))),(fun w v=>Rq w v (precV ((((-1132959):Int):Rat)))),(fun _ v=>v= .int .i64 (sz (Rat.num (precV ((((-1132959):Int):Rat)))))),(fun _ v=>v= .bool true),(fun _ v=>v= .bool true)] [] (by decide+kernel) (by decide+kernel) rfl rfl rfl ⟨(fun _ _ _ h hb=>h.below hb),(fun _ _ _ h hb=>h.below hb),(fun _ _ _ h hb=>h.below hb),(Mb.eq _),(Mb.eq _),(fun _ _ _ h hb=>h.below hb),(Mb.eq _),(fun _ _ _ h hb=>h.below hb),(Mb.eq _),(Mb.eq _),(Mb.eq _),(Mb.eq _),(fun _ _ _ h hb=>h.below hb),(fun _ _ _ h hb=>h.below hb),(Mb.eq _),(Mb.eq _),(Mb.eq _),trivial⟩ trivial ⟨?_,?_,?_,?_,?_,?_,?_,?_,?_,?_,?_,?_,?_,?_,?_,?_,?_,trivial⟩ ?_
 ·intro a' w' hF' hb hd
  exact dc0 (r_call Tryz.func38 en38.1 en38.2 (map2 ev_c ev_c)) (rOf2_any (1) (3) _ (by decide) (by decide) (by decide) (by decide)) rfl rfl
 ·intro a' w' hF' hb hd
  obtain⟨v3_0,e3,h3_1⟩:=sH hd 0 3 rfl rfl rfl rfl
  exact dc0 (r_call Tryz.func27 en27.1 en27.2 (map1 e3)) (reGrain_any _ _ 2 _ h3_1 (RLim.up (rlim_mk2 (limz_64 (by decide) (by decide)) (limz_64 (by decide) (by decide))) 2 (by decide)) (by omega)) rfl rfl
 ·intro a' w' hF' hb hd
  exact dc0 (r_call Tryz.func38 en38.1 en38.2 (map2 ev_c ev_c)) (rOf2_any (349525) (1048576) _ (by decide) (by decide) (by decide) (by decide)) rfl rfl
 ·intro a' w' hF' hb hd
  obtain⟨v4_0,e4,h4_1⟩:=sH hd 0 4 rfl rfl rfl rfl
  obtain⟨v5_0,e5,h5_1⟩:=sH hd 1 5 rfl rfl rfl rfl
  exact dcx0 (r_call Tryz.func43 en43.1 en43.2 (map2 e4 e5)) (rSame_true _ _ _ _ _ h4_1 h5_1 (by decide+kernel)) (fun _=>rfl) rfl rfl
 ·intro a' w' hF' hb hd
  have e6:=sHe hd 0 6 rfl rfl rfl rfl
  exact dv0 (r_move e6) rfl rfl rfl
 ·intro a' w' hF' hb hd
  have e7:=sHe hd 0 7 rfl rfl rfl rfl
  exact dc1 (wanted_by rfl rfl e7 rfl) (r_call Tryz.func41 en41.1 en41.2 (map1 ev_c)) (rWhole_any (5) _ (by decide) (by decide)) rfl
 ·intro a' w' hF' hb hd
  have e7:=sHe hd 0 7 rfl rfl rfl rfl
  exact dv1 (wanted_by rfl rfl e7 rfl) (r_load (hF'.at 0 rfl) (ld_all ty_Plc ((st.bk 0 rfl).below hb) rfl)) rfl rfl
 ·intro a' w' hF' hb hd
  have e7:=sHe hd 3 7 rfl rfl rfl rfl
  obtain⟨v8_0,e8,h8_1⟩:=sH hd 0 8 rfl rfl rfl rfl
  have e9:=sHe hd 1 9 rfl rfl rfl rfl
  exact dc1 (wanted_by rfl rfl e7 rfl) (r_call Tryz.func24 en24.1 en24.2 (map2 e8 e9)) (reDifference_any _ _ 0 1 0 1 2 _ (hT.below (below_to st.bel hb)) h8_1 (rlim_int (limz_64 (by decide) (by decide)) (by omega)) (by omega) (by decide) (by decide) (by decide) (by decide)) rfl
 ·intro a' w' hF' hb hd
  have e7:=sHe hd 2 7 rfl rfl rfl rfl
  obtain⟨v10_0,e10,h10_1⟩:=sH hd 0 10 rfl rfl rfl rfl
  exact dcx1 (wanted_by rfl rfl e7 rfl) (r_call Tryz.func42 en42.1 en42.2 (map1 e10)) (rsgn_any _ _ _ h10_1) (fun _=>rfl) rfl
 ·intro a' w' hF' hb hd
  have e7:=sHe hd 1 7 rfl rfl rfl rfl
  have e11:=sHe hd 0 11 rfl rfl rfl rfl
  exact dv1 (wanted_by rfl rfl e7 rfl) (r_bin e11 ev_c eg_scalar (bi_int (ic_eql (c:=true) (dec_tt (sz0_of (diff_flat5)))) (by simp))) rfl rfl
 ·intro a' w' hF' hb hd
  have e7:=sHe hd 0 7 rfl rfl rfl rfl
  have e12:=sHe hd 1 12 rfl rfl rfl rfl
  exact dv0 (r_pick_t e7 e12) rfl rfl rfl
 ·intro a' w' hF' hb hd
  have e13:=sHe hd 0 13 rfl rfl rfl rfl
  exact dv0 (r_move e13) rfl rfl rfl
 ·intro a' w' hF' hb hd
  have e14:=sHe hd 0 14 rfl rfl rfl rfl
  exact dc1 (wanted_by rfl rfl e14 rfl) (r_call Tryz.func41 en41.1 en41.2 (map1 ev_c)) (rWhole_any ((-1132959)) _ (by decide) (by decide)) rfl
 ·intro a' w' hF' hb hd
  have e14:=sHe hd 2 14 rfl rfl rfl rfl
  obtain⟨v15_0,e15,h15_1⟩:=sH hd 0 15 rfl rfl rfl rfl
  exact dc1 (wanted_by rfl rfl e14 rfl) (r_call Tryz.func14 en14.1 en14.2 (map1 e15)) (rePrecession_any _ _ 2 _ h15_1 (rlim_int (limz_64 (by decide) (by decide)) (by omega)) (by omega)) rfl
 ·intro a' w' hF' hb hd
  have e14:=sHe hd 2 14 rfl rfl rfl rfl
  obtain⟨v16_0,e16,h16_1⟩:=sH hd 0 16 rfl rfl rfl rfl
  exact dcx1 (wanted_by rfl rfl e14 rfl) (r_call Tryz.func42 en42.1 en42.2 (map1 e16)) (rsgn_any _ _ _ h16_1) (fun _=>rfl) rfl
 ·intro a' w' hF' hb hd
  have e14:=sHe hd 1 14 rfl rfl rfl rfl
  have e17:=sHe hd 0 17 rfl rfl rfl rfl
  exact dv1 (wanted_by rfl rfl e14 rfl) (r_bin e17 ev_c eg_scalar (bi_int (ic_eql (c:=true) (dec_tt (sz0_of (by decide+kernel)))) (by simp))) rfl rfl
 ·intro a' w' hF' hb hd
  have e14:=sHe hd 0 14 rfl rfl rfl rfl
  have e18:=sHe hd 1 18 rfl rfl rfl rfl
  exact dv0 (r_pick_t e14 e18) rfl rfl rfl
 intro a w2 hF bb hall hne
 replace st:=st.to bb
 have e19:=sSe hall 16 19 rfl rfl
 clear hall hne bb
 replace hF:=hF.add e19
 clear e19
 refine E.opset (L':=[(0,.bool true),(19,.bool true),(1,.pointer (some ⟨g1,0,none⟩)),(2,.agg #[.int .i64 0,.int .i64 1,.int .i64 0,.int .i64 1])]) hF (r_assign (hF.at 0 rfl)) rfl rfl rfl rfl fun a hF=>?_
 refine E.nil ?_
 refine wp_ret ?_
 have bel:=st.bel
 refine bodyPost_ret (res_tmp Tryz.results9 (hF.at 0 rfl)) hF.dfr ?_
 exact⟨rfl,bel⟩
end Go.Proofs.YtpkhdajnppoinaaGreatDoor
