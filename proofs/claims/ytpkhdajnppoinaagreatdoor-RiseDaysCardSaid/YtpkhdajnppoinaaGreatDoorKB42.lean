import Derived.Test.YtpkhdajnppoinaaGreatDoorKB32
import Derived.Test.YtpkhdajnppoinaaGreatDoorKB37
import Derived.Test.YtpkhdajnppoinaaGreatDoorKB41
namespace Go.Proofs.YtpkhdajnppoinaaGreatDoor
open Go.RowKit
set_option maxRecDepth 100000
set_option linter.unusedVariables false
set_option maxHeartbeats 8000000
theorem en28:(Tryz.f28.name == "runtime.NumGoroutine")=false∧Tryz.f28.body.isNone=false:=⟨by decide+kernel,by kernel_rfl⟩
theorem en15:(Tryz.f15.name == "runtime.NumGoroutine")=false∧Tryz.f15.body.isNone=false:=⟨by decide+kernel,by kernel_rfl⟩
theorem en17:(Tryz.f17.name == "runtime.NumGoroutine")=false∧Tryz.f17.body.isNone=false:=⟨by decide+kernel,by kernel_rfl⟩
theorem en19:(Tryz.f19.name == "runtime.NumGoroutine")=false∧Tryz.f19.body.isNone=false:=⟨by decide+kernel,by kernel_rfl⟩
theorem en21:(Tryz.f21.name == "runtime.NumGoroutine")=false∧Tryz.f21.body.isNone=false:=⟨by decide+kernel,by kernel_rfl⟩
theorem en23:(Tryz.f23.name == "runtime.NumGoroutine")=false∧Tryz.f23.body.isNone=false:=⟨by decide+kernel,by kernel_rfl⟩
theorem en25:(Tryz.f25.name == "runtime.NumGoroutine")=false∧Tryz.f25.body.isNone=false:=⟨by decide+kernel,by kernel_rfl⟩
theorem en98:(Tryz.f98.name == "runtime.NumGoroutine")=false∧Tryz.f98.body.isNone=false:=⟨by decide+kernel,by kernel_rfl⟩
theorem en30:(Tryz.f30.name == "runtime.NumGoroutine")=false∧Tryz.f30.body.isNone=false:=⟨by decide+kernel,by kernel_rfl⟩
theorem en31:(Tryz.f31.name == "runtime.NumGoroutine")=false∧Tryz.f31.body.isNone=false:=⟨by decide+kernel,by kernel_rfl⟩
def r3 (k:Int):Int:=if k=0 then 1670 else if k=1 then 1795 else 1935
theorem r3_at {k:Int} (h0:0≤k) (h1:k<3):(cl .i64 [1670,1795,1935])[k.toNat]?=some (.int .i64 (r3 k)):=by
 have h:k=0∨k=1∨k=2:=by omega
 rcases h with rfl|rfl|rfl <;> rfl
theorem r3_bd (k:Int):1670≤r3 k∧r3 k≤1935:=by unfold r3;split <;> (try split) <;> omega
theorem ix_int3 {w:World} {g n c:Nat} {i:Int} (h0:0≤i) (h1:i<n):(Instr.indexAt 34 (.slice (some ⟨g,0,none⟩) n c) (.int .i64 i)).run Tryz.prog w= .ok (.pointer (some ⟨g,i.toNat,none⟩)) w:=by
 simp[Instr.indexAt,asIntOf,run_underlying Tryz.underlying34,Sem.run_bind,h0,h1,Addr.add_mid]
theorem rmod_trop (t:Rat):rmod (tropV t) ((360:Int):Rat)=tropV t:=rmod_id (rmod_low c360_pos) (rmod_high c360_pos)
theorem bs_r3 (w:World):∃g w',(Instr.buildSlice 34 3 #[(0,.int .i64 1670),(1,.int .i64 1795),(2,.int .i64 1935)]).run Tryz.prog w= .ok (.slice (some ⟨g,0,none⟩) 3 3) w'∧Below w.heap.size w w'∧Blk w' g (cl .i64 [1670,1795,1935]):=by
 have hb:=blk_new (w:=w) (cs:=cl .i64 [1670,1795,1935]) 3
 refine⟨w.heap.size,w.alloc (.cells (cl .i64 [1670,1795,1935]).toArray 3),?_,hb.2,hb.1⟩
 have hs:=size_run (P:=Tryz.prog) (T:=3) (n:=1) sz_int w
 simp[Instr.buildSlice,go_sem,hs,Instr.fill,Value.cells,newRow,cl]
theorem ps_r3 {a:Act} {x0 x1 x2:Value}:(#[(0,Operand.const x0),(1,Operand.const x1),(2,Operand.const x2)].map fun(p:Nat×Operand)=>(p.1,a.eval p.2))=#[(0,x0),(1,x1),(2,x2)]:=by simp[Act.eval]
theorem rGrain14_any (v1:Value) (q1:Rat) (k i:Nat) (w:World) (h1:Rr w v1 q1 k) (li1:RLim q1 i) (hp:1≤k) (hk:k≤4000) (hi:i≤1000):
 Calls Tryz.prog 28 #[v1] w (RrPost w (grainV q1) (i+20)):=by
 obtain⟨b1,ad1,n1,c1,ae1,m1,d1,rfl⟩:=h1.form
 have st:=St.start w
 refine E.enter (nt:=10) (L:=[(0,.agg #[.bool b1,.slice ad1 n1 c1,.slice ae1 m1 d1])]) Tryz.func28 rfl rfl rfl (args_cons (i:=0) rfl args_nil) ?_
 intro a hF
 refine wp_seq ?_
 refine E.seq ?_
 refine S.box st hF (hF.at 0 rfl) rfl rfl fun g1 w1 a st hF=>?_
 refine S.alloc st hF ty_RRat rfl rfl fun g2 w2 a st hF=>?_
 refine E.nil ?_
 refine wp_seq ?_
 refine E.drawn 7 mixed hF [3,4,5,6,7,8,9] [(fun _ v=>v= .agg #[.bool b1,.slice ad1 n1 c1,.slice ae1 m1 d1]),(fun w v=>Rr w v (((1048576:Int):Rat)) (2)),(fun w v=>Rr w v ((q1)*(((1048576:Int):Rat))) ((k+2))),(fun w v=>Rz w v (Rat.floor ((q1)*(((1048576:Int):Rat))))),(fun w v=>Rr w v (((Rat.floor ((q1)*(((1048576:Int):Rat))):Int):Rat)) ((((i+2)+1)+1))),(fun w v=>Rr w v (((1:Int):Rat)/((1048576:Int):Rat)) (2)),(fun w v=>Rr w v ((((Rat.floor ((q1)*(((1048576:Int):Rat))):Int):Rat))*(((1:Int):Rat)/((1048576:Int):Rat))) (((((i+2)+1)+1)+2)))] [] (by decide+kernel) (by decide+kernel) rfl rfl rfl ⟨(Mb.eq _),(fun _ _ _ h hb=>h.below hb),(fun _ _ _ h hb=>h.below hb),(fun _ _ _ h hb=>h.below hb),(fun _ _ _ h hb=>h.below hb),(fun _ _ _ h hb=>h.below hb),(fun _ _ _ h hb=>h.below hb),trivial⟩ trivial ⟨?_,?_,?_,?_,?_,?_,?_,trivial⟩ ?_
 ·intro a' w' hF' hb hd
  exact dv0 (r_load (hF'.at 1 rfl) (ld_all ty_RRat ((st.bk 1 rfl).below hb) rfl)) rfl rfl rfl
 ·intro a' w' hF' hb hd
  exact dc0 (r_call Tryz.func72 en72.1 en72.2 (map2 ev_c ev_c)) (dOf1b_any (1048576) _ (by decide) (by decide)) rfl rfl
 ·intro a' w' hF' hb hd
  have e3:=sHe hd 0 3 rfl rfl rfl rfl
  obtain⟨v4_0,e4,h4_1⟩:=sH hd 1 4 rfl rfl rfl rfl
  exact dc0 (r_call Tryz.func71 en71.1 en71.2 (map2 e3 e4)) (dMul2_any _ _ (q1) _ k 2 _ (h1.below (below_to st.bel hb)) h4_1 (by omega) (by omega) (by omega) (by omega)) rfl rfl
 ·intro a' w' hF' hb hd
  obtain⟨v5_0,e5,h5_1⟩:=sH hd 0 5 rfl rfl rfl rfl
  exact dc0 (r_call Tryz.func97 en97.1 en97.2 (map1 e5)) (dFloor_any _ _ (k+2) _ h5_1 (by omega) (by omega)) rfl rfl
 ·intro a' w' hF' hb hd
  obtain⟨v6_0,e6,h6_1⟩:=sH hd 0 6 rfl rfl rfl rfl
  exact dc0 (r_call Tryz.func96 en96.1 en96.2 (map1 e6)) (dWhole_any _ (Rat.floor ((q1)*(((1048576:Int):Rat)))) (((i+2)+1)+1) _ h6_1 (Lim.up (fl_lim (rlim_mul li1 (lim64 (n:=1048576) (by decide) (by decide)))) _ (by omega)) (by omega)) rfl rfl
 ·intro a' w' hF' hb hd
  exact dc0 (r_call Tryz.func72 en72.1 en72.2 (map2 ev_c ev_c)) (dOf_any (1) (1048576) _ (by decide) (by decide) (by decide) (by decide)) rfl rfl
 ·intro a' w' hF' hb hd
  obtain⟨v7_0,e7,h7_1⟩:=sH hd 0 7 rfl rfl rfl rfl
  obtain⟨v8_0,e8,h8_1⟩:=sH hd 1 8 rfl rfl rfl rfl
  exact dc0 (r_call Tryz.func71 en71.1 en71.2 (map2 e7 e8)) (dMul2_any _ _ _ _ (((i+2)+1)+1) 2 _ h7_1 h8_1 (by omega) (by omega) (by omega) (by omega)) rfl rfl
 intro a w3 hF bb hall hne
 replace st:=st.to bb
 obtain⟨vv4,e9,hh5⟩:=sS hall 6 9 rfl rfl
 replace st:=st.add hh5 (Rr.cl _)
 clear hh5
 clear hall hne bb
 obtain⟨b6,ad6,n6,c6,ae6,m6,d6,rfl⟩:=Rr.form (st.f 0 rfl)
 replace hF:=hF.add e9
 clear e9
 refine S.sto st hF 0 rfl (hF.at 1 rfl) (hF.at 0 rfl) ty_RRat rfl rfl rfl rfl fun w7 a st hF=>?_
 refine E.nil ?_
 refine wp_ret ?_
 refine S.ret Tryz.results28 st hF (hF.at 1 rfl) 0 rfl ty_RRat rfl hF.dfr ?_
 have bel:=st.bel
 exact⟨_,rfl,Rr.cast (Rr.up (st.f 0 rfl) _ (by omega)) rfl,bel⟩
theorem rPrecession14_any (v1:Value) (q1:Rat) (k i:Nat) (w:World) (h1:Rr w v1 q1 k) (li1:RLim q1 i) (hp:1≤k) (hk:k≤3) (hi:i≤3):
 Calls Tryz.prog 15 #[v1] w (RrPost w (precV q1) (k+i+60)):=by
 obtain⟨b1,ad1,n1,c1,ae1,m1,d1,rfl⟩:=h1.form
 have st:=St.start w
 refine E.enter (nt:=21) (L:=[(0,.agg #[.bool b1,.slice ad1 n1 c1,.slice ae1 m1 d1])]) Tryz.func15 rfl rfl rfl (args_cons (i:=0) rfl args_nil) ?_
 intro a hF
 refine wp_seq ?_
 refine E.seq ?_
 refine S.box st hF (hF.at 0 rfl) rfl rfl fun g1 w1 a st hF=>?_
 refine S.alloc st hF ty_RRat rfl rfl fun g2 w2 a st hF=>?_
 refine E.nil ?_
 refine wp_seq ?_
 refine E.drawn 8 mixed hF [4,5,6,7,8,9,10,3] [(fun _ v=>v= .agg #[.bool b1,.slice ad1 n1 c1,.slice ae1 m1 d1]),(fun w v=>Rr w v ((((-1132959):Int):Rat)) (2)),(fun w v=>Rr w v ((q1)-((((-1132959):Int):Rat))) ((k+2+1))),(fun w v=>Rr w v (((600:Int):Rat)/((1577917828:Int):Rat)) (2)),(fun w v=>Rr w v (((q1)-((((-1132959):Int):Rat)))*(((600:Int):Rat)/((1577917828:Int):Rat))) (((k+2+1)+2))),(fun w v=>Rr w v (((1:Int):Rat)/((4:Int):Rat)) (2)),(fun w v=>Rr w v ((((q1)-((((-1132959):Int):Rat)))*(((600:Int):Rat)/((1577917828:Int):Rat)))-(((1:Int):Rat)/((4:Int):Rat))) ((((k+2+1)+2)+2+1))),(fun w v=>∃g,v= .pointer (some ⟨g,0,none⟩)∧w2.heap.size≤g∧Own w g [.bool false,.slice none 0 0,.slice none 0 0])] [7] (by decide+kernel) (by decide+kernel) rfl rfl rfl ⟨(Mb.eq _),(fun _ _ _ h hb=>h.below hb),(fun _ _ _ h hb=>h.below hb),(fun _ _ _ h hb=>h.below hb),(fun _ _ _ h hb=>h.below hb),(fun _ _ _ h hb=>h.below hb),(fun _ _ _ h hb=>h.below hb),(fun _ _ _ ⟨g,e,l,o⟩ hb=>⟨g,e,l,o.below hb⟩),trivial⟩ ⟨fun _ _ ⟨g,e,_,o⟩=>⟨g,e,o.lt⟩,trivial⟩ ⟨?_,?_,?_,?_,?_,?_,?_,?_,trivial⟩ ?_
 ·intro a' w' hF' hb hd
  exact dv0 (r_load (hF'.at 1 rfl) (ld_all ty_RRat ((st.bk 1 rfl).below hb) rfl)) rfl rfl rfl
 ·intro a' w' hF' hb hd
  exact dc0 (r_call Tryz.func72 en72.1 en72.2 (map2 ev_c ev_c)) (dOf1b_any ((-1132959)) _ (by decide) (by decide)) rfl rfl
 ·intro a' w' hF' hb hd
  have e4:=sHe hd 0 4 rfl rfl rfl rfl
  obtain⟨v5_0,e5,h5_1⟩:=sH hd 1 5 rfl rfl rfl rfl
  exact dc0 (r_call Tryz.func70 en70.1 en70.2 (map2 e4 e5)) (dSub2_any _ _ (q1) _ k 2 _ (h1.below (below_to st.bel hb)) h5_1 (by omega) (by omega) (by omega) (by omega)) rfl rfl
 ·intro a' w' hF' hb hd
  exact dc0 (r_call Tryz.func72 en72.1 en72.2 (map2 ev_c ev_c)) (dOf_any (600) (1577917828) _ (by decide) (by decide) (by decide) (by decide)) rfl rfl
 ·intro a' w' hF' hb hd
  obtain⟨v6_0,e6,h6_1⟩:=sH hd 0 6 rfl rfl rfl rfl
  obtain⟨v7_0,e7,h7_1⟩:=sH hd 1 7 rfl rfl rfl rfl
  exact dc0 (r_call Tryz.func71 en71.1 en71.2 (map2 e6 e7)) (dMul2_any _ _ _ _ (k+2+1) 2 _ h6_1 h7_1 (by omega) (by omega) (by omega) (by omega)) rfl rfl
 ·intro a' w' hF' hb hd
  exact dc0 (r_call Tryz.func72 en72.1 en72.2 (map2 ev_c ev_c)) (dOf_any (1) (4) _ (by decide) (by decide) (by decide) (by decide)) rfl rfl
 ·intro a' w' hF' hb hd
  obtain⟨v8_0,e8,h8_1⟩:=sH hd 0 8 rfl rfl rfl rfl
  obtain⟨v9_0,e9,h9_1⟩:=sH hd 1 9 rfl rfl rfl rfl
  exact dc0 (r_call Tryz.func70 en70.1 en70.2 (map2 e8 e9)) (dSub2_any _ _ _ _ ((k+2+1)+2) 2 _ h8_1 h9_1 (by omega) (by omega) (by omega) (by omega)) rfl rfl
 ·intro a' w' hF' hb hd
  exact da0 ty_RRat rfl hb.size rfl
 intro a w3 hF bb hall hne
 have s0:=st
 replace st:=st.to bb
 obtain⟨vv4,e10,hh5⟩:=sS hall 6 10 rfl rfl
 replace st:=st.add hh5 (Rr.cl _)
 clear hh5
 obtain⟨_,e3,g3,rfl,ge3,o3⟩:=sS hall 7 3 rfl rfl
 replace st:=st.push o3.blk (Nat.le_trans s0.bel.size ge3) (s0.ne ge3)
 clear o3
 clear hall hne bb s0
 obtain⟨b6,ad6,n6,c6,ae6,m6,d6,rfl⟩:=Rr.form (st.f 0 rfl)
 replace hF:=hF.add e10
 clear e10
 replace hF:=hF.add e3
 clear e3
 refine S.sto st hF 0 rfl (hF.at 0 rfl) (hF.at 1 rfl) ty_RRat rfl rfl rfl rfl fun w7 a st hF=>?_
 refine E.nil ?_
 refine wp_seq ?_
 refine E.drawn 4 mixed hF [11,12,13,14] [(fun _ v=>v= .agg #[.bool b6,.slice ad6 n6 c6,.slice ae6 m6 d6]),(fun w v=>Rr w v ((((-1):Int):Rat)/((2:Int):Rat)) (2)),(fun w v=>Rr w v (((1:Int):Rat)/((2:Int):Rat)) (2)),(fun w v=>Rr w v (rinto ((((q1)-((((-1132959):Int):Rat)))*(((600:Int):Rat)/((1577917828:Int):Rat)))-(((1:Int):Rat)/((4:Int):Rat))) ((((-1):Int):Rat)/((2:Int):Rat)) (((1:Int):Rat)/((2:Int):Rat))) (((((k+2+1)+2)+2+1)+(((i+2+1)+2)+2+1)+30)))] [] (by decide+kernel) (by decide+kernel) rfl rfl rfl ⟨(Mb.eq _),(fun _ _ _ h hb=>h.below hb),(fun _ _ _ h hb=>h.below hb),(fun _ _ _ h hb=>h.below hb),trivial⟩ trivial ⟨?_,?_,?_,?_,trivial⟩ ?_
 ·intro a' w' hF' hb hd
  exact dv0 (r_load (hF'.at 0 rfl) (ld_all ty_RRat ((st.bk 0 rfl).below hb) rfl)) rfl rfl rfl
 ·intro a' w' hF' hb hd
  exact dc0 (r_call Tryz.func72 en72.1 en72.2 (map2 ev_c ev_c)) (dOf_any ((-1)) (2) _ (by decide) (by decide) (by decide) (by decide)) rfl rfl
 ·intro a' w' hF' hb hd
  exact dc0 (r_call Tryz.func72 en72.1 en72.2 (map2 ev_c ev_c)) (dOf_any (1) (2) _ (by decide) (by decide) (by decide) (by decide)) rfl rfl
 ·intro a' w' hF' hb hd
  have e11:=sHe hd 0 11 rfl rfl rfl rfl
  obtain⟨v12_0,e12,h12_1⟩:=sH hd 1 12 rfl rfl rfl rfl
  obtain⟨v13_0,e13,h13_1⟩:=sH hd 2 13 rfl rfl rfl rfl
  exact dc0 (r_call Tryz.func73 en73.1 en73.2 (map3 e11 e12 e13)) (dInto2_any _ _ _ _ _ _ (((k+2+1)+2)+2+1) (((i+2+1)+2)+2+1) _ ((st.f 0 rfl).below hb) h12_1 h13_1 ((rlim_sub (rlim_mul (rlim_sub li1 (lim64 (n:=(-1132959)) (by decide) (by decide))) (lim64q (n:=600) (d:=1577917828) (by decide) (by decide) (by decide) (by decide))) (lim64q (n:=1) (d:=4) (by decide) (by decide) (by decide) (by decide))).up _ (by omega)) ((lim64q (n:=(-1)) (d:=2) (by decide) (by decide) (by decide) (by decide)).up _ (by omega)) ((lim64q (n:=1) (d:=2) (by decide) (by decide) (by decide) (by decide)).up _ (by omega)) (by omega) (by omega) (by omega)) rfl rfl
 intro a w8 hF bb hall hne
 replace st:=st.to bb
 obtain⟨vv9,e14,hh10⟩:=sS hall 3 14 rfl rfl
 replace st:=st.add hh10 (Rr.cl _)
 clear hh10
 clear hall hne bb
 obtain⟨b11,ad11,n11,c11,ae11,m11,d11,rfl⟩:=Rr.form (st.f 0 rfl)
 replace hF:=hF.add e14
 clear e14
 refine S.sto st hF 0 rfl (hF.at 1 rfl) (hF.at 0 rfl) ty_RRat rfl rfl rfl rfl fun w12 a st hF=>?_
 refine E.nil ?_
 refine wp_seq ?_
 refine E.drawn 6 mixed hF [15,16,17,18,19,20] [(fun w v=>Rr w v (((27:Int):Rat)) (2)),(fun w v=>Rr w v (((108:Int):Rat)) (2)),(fun _ v=>v= .agg #[.bool b11,.slice ad11 n11 c11,.slice ae11 m11 d11]),(fun w v=>Rr w v (Rat.abs (rinto ((((q1)-((((-1132959):Int):Rat)))*(((600:Int):Rat)/((1577917828:Int):Rat)))-(((1:Int):Rat)/((4:Int):Rat))) ((((-1):Int):Rat)/((2:Int):Rat)) (((1:Int):Rat)/((2:Int):Rat)))) (((((k+2+1)+2)+2+1)+(((i+2+1)+2)+2+1)+30))),(fun w v=>Rr w v ((((108:Int):Rat))*(Rat.abs (rinto ((((q1)-((((-1132959):Int):Rat)))*(((600:Int):Rat)/((1577917828:Int):Rat)))-(((1:Int):Rat)/((4:Int):Rat))) ((((-1):Int):Rat)/((2:Int):Rat)) (((1:Int):Rat)/((2:Int):Rat))))) ((2+((((k+2+1)+2)+2+1)+(((i+2+1)+2)+2+1)+30)))),(fun w v=>Rr w v ((((27:Int):Rat))-((((108:Int):Rat))*(Rat.abs (rinto ((((q1)-((((-1132959):Int):Rat)))*(((600:Int):Rat)/((1577917828:Int):Rat)))-(((1:Int):Rat)/((4:Int):Rat))) ((((-1):Int):Rat)/((2:Int):Rat)) (((1:Int):Rat)/((2:Int):Rat)))))) ((2+(2+((((k+2+1)+2)+2+1)+(((i+2+1)+2)+2+1)+30))+1)))] [] (by decide+kernel) (by decide+kernel) rfl rfl rfl ⟨(fun _ _ _ h hb=>h.below hb),(fun _ _ _ h hb=>h.below hb),(Mb.eq _),(fun _ _ _ h hb=>h.below hb),(fun _ _ _ h hb=>h.below hb),(fun _ _ _ h hb=>h.below hb),trivial⟩ trivial ⟨?_,?_,?_,?_,?_,?_,trivial⟩ ?_
 ·intro a' w' hF' hb hd
  exact dc0 (r_call Tryz.func72 en72.1 en72.2 (map2 ev_c ev_c)) (dOf1b_any (27) _ (by decide) (by decide)) rfl rfl
 ·intro a' w' hF' hb hd
  exact dc0 (r_call Tryz.func72 en72.1 en72.2 (map2 ev_c ev_c)) (dOf1b_any (108) _ (by decide) (by decide)) rfl rfl
 ·intro a' w' hF' hb hd
  exact dv0 (r_load (hF'.at 1 rfl) (ld_all ty_RRat ((st.bk 0 rfl).below hb) rfl)) rfl rfl rfl
 ·intro a' w' hF' hb hd
  have e17:=sHe hd 0 17 rfl rfl rfl rfl
  exact dc0 (r_call Tryz.func74 en74.1 en74.2 (map1 e17)) (dAbs_any _ _ ((((k+2+1)+2)+2+1)+(((i+2+1)+2)+2+1)+30) _ ((st.f 0 rfl).below hb)) rfl rfl
 ·intro a' w' hF' hb hd
  obtain⟨v16_0,e16,h16_1⟩:=sH hd 0 16 rfl rfl rfl rfl
  obtain⟨v18_0,e18,h18_1⟩:=sH hd 1 18 rfl rfl rfl rfl
  exact dc0 (r_call Tryz.func71 en71.1 en71.2 (map2 e16 e18)) (dMul2_any _ _ _ _ 2 ((((k+2+1)+2)+2+1)+(((i+2+1)+2)+2+1)+30) _ h16_1 h18_1 (by omega) (by omega) (by omega) (by omega)) rfl rfl
 ·intro a' w' hF' hb hd
  obtain⟨v15_0,e15,h15_1⟩:=sH hd 0 15 rfl rfl rfl rfl
  obtain⟨v19_0,e19,h19_1⟩:=sH hd 1 19 rfl rfl rfl rfl
  exact dc0 (r_call Tryz.func70 en70.1 en70.2 (map2 e15 e19)) (dSub2_any _ _ _ _ 2 (2+((((k+2+1)+2)+2+1)+(((i+2+1)+2)+2+1)+30)) _ h15_1 h19_1 (by omega) (by omega) (by omega) (by omega)) rfl rfl
 intro a w13 hF bb hall hne
 replace st:=st.to bb
 obtain⟨vv14,e20,hh15⟩:=sS hall 5 20 rfl rfl
 replace st:=st.add hh15 (Rr.cl _)
 clear hh15
 clear hall hne bb
 obtain⟨b16,ad16,n16,c16,ae16,m16,d16,rfl⟩:=Rr.form (st.f 0 rfl)
 replace hF:=hF.add e20
 clear e20
 refine S.sto st hF 1 rfl (hF.at 4 rfl) (hF.at 0 rfl) ty_RRat rfl rfl rfl rfl fun w17 a st hF=>?_
 refine E.nil ?_
 refine wp_ret ?_
 refine S.ret Tryz.results15 st hF (hF.at 4 rfl) 1 rfl ty_RRat rfl hF.dfr ?_
 have bel:=st.bel
 exact⟨_,rfl,Rr.cast (Rr.up (st.f 0 rfl) _ (by omega)) rfl,bel⟩
theorem rTropical14_any (v1:Value) (q1:Rat) (k i:Nat) (w:World) (h1:Rr w v1 q1 k) (li1:RLim q1 i) (hp:1≤k) (hk:k≤3) (hi:i≤3):
 Calls Tryz.prog 17 #[v1] w (RrPost w (tropV q1) (4*k+14*i+680)):=by
 obtain⟨b1,ad1,n1,c1,ae1,m1,d1,rfl⟩:=h1.form
 have st:=St.start w
 refine E.enter (nt:=10) (L:=[(0,.agg #[.bool b1,.slice ad1 n1 c1,.slice ae1 m1 d1])]) Tryz.func17 rfl rfl rfl (args_cons (i:=0) rfl args_nil) ?_
 intro a hF
 refine wp_seq ?_
 refine E.seq ?_
 refine S.box st hF (hF.at 0 rfl) rfl rfl fun g1 w1 a st hF=>?_
 refine S.alloc st hF ty_RRat rfl rfl fun g2 w2 a st hF=>?_
 refine E.nil ?_
 refine wp_seq ?_
 refine E.drawn 7 mixed hF [3,4,5,6,7,8,9] [(fun _ v=>v= .agg #[.bool b1,.slice ad1 n1 c1,.slice ae1 m1 d1]),(fun w v=>Rr w v (sunV (q1)) ((3*k+8*i+400))),(fun _ v=>v= .agg #[.bool b1,.slice ad1 n1 c1,.slice ae1 m1 d1]),(fun w v=>Rr w v (precV (q1)) ((k+i+60))),(fun w v=>Rr w v ((sunV (q1))-(precV (q1))) (((3*k+8*i+400)+(k+i+60)+1))),(fun w v=>Rr w v (((360:Int):Rat)) (2)),(fun w v=>Rr w v (rmod ((sunV (q1))-(precV (q1))) (((360:Int):Rat))) ((((3*k+8*i+400)+(k+i+60)+1)+2+((3*i+100)+(2*i+60)+1)+2+3)))] [] (by decide+kernel) (by decide+kernel) rfl rfl rfl ⟨(Mb.eq _),(fun _ _ _ h hb=>h.below hb),(Mb.eq _),(fun _ _ _ h hb=>h.below hb),(fun _ _ _ h hb=>h.below hb),(fun _ _ _ h hb=>h.below hb),(fun _ _ _ h hb=>h.below hb),trivial⟩ trivial ⟨?_,?_,?_,?_,?_,?_,?_,trivial⟩ ?_
 ·intro a' w' hF' hb hd
  exact dv0 (r_load (hF'.at 1 rfl) (ld_all ty_RRat ((st.bk 1 rfl).below hb) rfl)) rfl rfl rfl
 ·intro a' w' hF' hb hd
  have e3:=sHe hd 0 3 rfl rfl rfl rfl
  exact dc0 (r_call Tryz.func77 en77.1 en77.2 (map1 e3)) (rSun12_any _ (q1) k i _ (h1.below (below_to st.bel hb)) li1 (by omega) (by omega) (by omega)) rfl rfl
 ·intro a' w' hF' hb hd
  exact dv0 (r_load (hF'.at 1 rfl) (ld_all ty_RRat ((st.bk 1 rfl).below hb) rfl)) rfl rfl rfl
 ·intro a' w' hF' hb hd
  have e5:=sHe hd 0 5 rfl rfl rfl rfl
  exact dc0 (r_call Tryz.func15 en15.1 en15.2 (map1 e5)) (rPrecession14_any _ (q1) k i _ (h1.below (below_to st.bel hb)) li1 (by omega) (by omega) (by omega)) rfl rfl
 ·intro a' w' hF' hb hd
  obtain⟨v4_0,e4,h4_1⟩:=sH hd 0 4 rfl rfl rfl rfl
  obtain⟨v6_0,e6,h6_1⟩:=sH hd 1 6 rfl rfl rfl rfl
  exact dc0 (r_call Tryz.func70 en70.1 en70.2 (map2 e4 e6)) (dSub2_any _ _ _ _ (3*k+8*i+400) (k+i+60) _ h4_1 h6_1 (by omega) (by omega) (by omega) (by omega)) rfl rfl
 ·intro a' w' hF' hb hd
  exact dc0 (r_call Tryz.func72 en72.1 en72.2 (map2 ev_c ev_c)) (dOf1b_any (360) _ (by decide) (by decide)) rfl rfl
 ·intro a' w' hF' hb hd
  obtain⟨v7_0,e7,h7_1⟩:=sH hd 0 7 rfl rfl rfl rfl
  obtain⟨v8_0,e8,h8_1⟩:=sH hd 1 8 rfl rfl rfl rfl
  exact dc0 (r_call Tryz.func76 en76.1 en76.2 (map2 e7 e8)) (dMod2_any _ _ _ _ ((3*k+8*i+400)+(k+i+60)+1) 2 ((3*i+100)+(2*i+60)+1) 2 _ h7_1 h8_1 (rlim_sub (sunV_lim li1) (prec_lim li1)) (lim64 (n:=360) (by decide) (by decide)) (by omega) (by omega) (by omega) (by omega) (by omega) (by omega)) rfl rfl
 intro a w3 hF bb hall hne
 replace st:=st.to bb
 obtain⟨vv4,e9,hh5⟩:=sS hall 6 9 rfl rfl
 replace st:=st.add hh5 (Rr.cl _)
 clear hh5
 clear hall hne bb
 obtain⟨b6,ad6,n6,c6,ae6,m6,d6,rfl⟩:=Rr.form (st.f 0 rfl)
 replace hF:=hF.add e9
 clear e9
 refine S.sto st hF 0 rfl (hF.at 1 rfl) (hF.at 0 rfl) ty_RRat rfl rfl rfl rfl fun w7 a st hF=>?_
 refine E.nil ?_
 refine wp_ret ?_
 refine S.ret Tryz.results17 st hF (hF.at 1 rfl) 0 rfl ty_RRat rfl hF.dfr ?_
 have bel:=st.bel
 exact⟨_,rfl,Rr.cast (Rr.up (st.f 0 rfl) _ (by omega)) rfl,bel⟩
theorem rMotion14_any (v1:Value) (q1:Rat) (k i:Nat) (w:World) (h1:Rr w v1 q1 k) (li1:RLim q1 i) (hp:1≤k) (hk:k≤3) (hi:i≤3):
 Calls Tryz.prog 19 #[v1] w (RrPost w (motV q1) (k+2*i+130)):=by
 obtain⟨b1,ad1,n1,c1,ae1,m1,d1,rfl⟩:=h1.form
 have hsa:=sp_step (pk (mof q1 pay))
 have st:=St.start w
 refine E.enter (nt:=28) (L:=[(0,.agg #[.bool b1,.slice ad1 n1 c1,.slice ae1 m1 d1])]) Tryz.func19 rfl rfl rfl (args_cons (i:=0) rfl args_nil) ?_
 intro a hF
 refine wp_seq ?_
 refine E.seq ?_
 refine S.box st hF (hF.at 0 rfl) rfl rfl fun g1 w1 a st hF=>?_
 refine S.alloc st hF ty_RRat rfl rfl fun g2 w2 a st hF=>?_
 refine E.nil ?_
 refine wp_seq ?_
 refine E.drawn 4 mixed hF [6,7,8,3] [(fun _ v=>v= .agg #[.bool b1,.slice ad1 n1 c1,.slice ae1 m1 d1]),(fun w v=>Rr w v (pay) (7)),(fun w v=>Rr w v (mof (q1) (pay)) ((k+7+i+2+30))),(fun w v=>∃g,v= .pointer (some ⟨g,0,none⟩)∧w2.heap.size≤g∧Own w g [.bool false,.slice none 0 0,.slice none 0 0])] [3] (by decide+kernel) (by decide+kernel) rfl rfl rfl ⟨(Mb.eq _),(fun _ _ _ h hb=>h.below hb),(fun _ _ _ h hb=>h.below hb),(fun _ _ _ ⟨g,e,l,o⟩ hb=>⟨g,e,l,o.below hb⟩),trivial⟩ ⟨fun _ _ ⟨g,e,_,o⟩=>⟨g,e,o.lt⟩,trivial⟩ ⟨?_,?_,?_,?_,trivial⟩ ?_
 ·intro a' w' hF' hb hd
  exact dv0 (r_load (hF'.at 1 rfl) (ld_all ty_RRat ((st.bk 1 rfl).below hb) rfl)) rfl rfl rfl
 ·intro a' w' hF' hb hd
  exact dc0 (r_call Tryz.func81 en81.1 en81.2 map0) (rAnomalyYear11_any _) rfl rfl
 ·intro a' w' hF' hb hd
  have e6:=sHe hd 0 6 rfl rfl rfl rfl
  obtain⟨v7_0,e7,h7_1⟩:=sH hd 1 7 rfl rfl rfl rfl
  exact dc0 (r_call Tryz.func80 en80.1 en80.2 (map2 e6 e7)) (rMof_any _ _ (q1) (pay) k 7 i 2 _ (h1.below (below_to st.bel hb)) h7_1 li1 pay_lim (by omega) (by omega) (by omega) (by omega) (by omega) (by omega)) rfl rfl
 ·intro a' w' hF' hb hd
  exact da0 ty_RRat rfl hb.size rfl
 intro a w3 hF bb hall hne
 have s0:=st
 replace st:=st.to bb
 obtain⟨vv4,e8,hh5⟩:=sS hall 2 8 rfl rfl
 replace st:=st.add hh5 (Rr.cl _)
 clear hh5
 obtain⟨_,e3,g3,rfl,ge3,o3⟩:=sS hall 3 3 rfl rfl
 replace st:=st.push o3.blk (Nat.le_trans s0.bel.size ge3) (s0.ne ge3)
 clear o3
 clear hall hne bb s0
 obtain⟨b6,ad6,n6,c6,ae6,m6,d6,rfl⟩:=Rr.form (st.f 0 rfl)
 replace hF:=hF.add e8
 clear e8
 replace hF:=hF.add e3
 clear e3
 refine S.sto st hF 0 rfl (hF.at 0 rfl) (hF.at 1 rfl) ty_RRat rfl rfl rfl rfl fun w7 a st hF=>?_
 refine E.nil ?_
 refine wp_seq ?_
 refine E.drawn 8 mixed hF [9,10,11,12,13,14,15,4] [(fun w v=>Rr w v (((14:Int):Rat)/((360:Int):Rat)) (2)),(fun _ v=>v= .agg #[.bool b6,.slice ad6 n6 c6,.slice ae6 m6 d6]),(fun w v=>Rr w v (sof (mof (q1) (pay))) (((k+7+i+2+30)+(i+2+5)+40))),(fun w v=>Rr w v (Rat.abs (sof (mof (q1) (pay)))) (((k+7+i+2+30)+(i+2+5)+40))),(fun w v=>Rr w v (((1:Int):Rat)/((1080:Int):Rat)) (2)),(fun w v=>Rr w v ((Rat.abs (sof (mof (q1) (pay))))*(((1:Int):Rat)/((1080:Int):Rat))) ((((k+7+i+2+30)+(i+2+5)+40)+2))),(fun w v=>Rr w v ((((14:Int):Rat)/((360:Int):Rat))-((Rat.abs (sof (mof (q1) (pay))))*(((1:Int):Rat)/((1080:Int):Rat)))) ((2+(((k+7+i+2+30)+(i+2+5)+40)+2)+1))),(fun w v=>∃g,v= .pointer (some ⟨g,0,none⟩)∧w7.heap.size≤g∧Own w g [.bool false,.slice none 0 0,.slice none 0 0])] [7] (by decide+kernel) (by decide+kernel) rfl rfl rfl ⟨(fun _ _ _ h hb=>h.below hb),(Mb.eq _),(fun _ _ _ h hb=>h.below hb),(fun _ _ _ h hb=>h.below hb),(fun _ _ _ h hb=>h.below hb),(fun _ _ _ h hb=>h.below hb),(fun _ _ _ h hb=>h.below hb),(fun _ _ _ ⟨g,e,l,o⟩ hb=>⟨g,e,l,o.below hb⟩),trivial⟩ ⟨fun _ _ ⟨g,e,_,o⟩=>⟨g,e,o.lt⟩,trivial⟩ ⟨?_,?_,?_,?_,?_,?_,?_,?_,trivial⟩ ?_
 ·intro a' w' hF' hb hd
  exact dc0 (r_call Tryz.func72 en72.1 en72.2 (map2 ev_c ev_c)) (dOf_any (14) (360) _ (by decide) (by decide) (by decide) (by decide)) rfl rfl
 ·intro a' w' hF' hb hd
  exact dv0 (r_load (hF'.at 0 rfl) (ld_all ty_RRat ((st.bk 0 rfl).below hb) rfl)) rfl rfl rfl
 ·intro a' w' hF' hb hd
  have e10:=sHe hd 0 10 rfl rfl rfl rfl
  exact dc0 (r_call Tryz.func82 en82.1 en82.2 (map1 e10)) (rsof2_any _ _ (k+7+i+2+30) (i+2+5) _ ((st.f 0 rfl).below hb) (mof_lim li1 pay_lim) (by omega) (by omega) (by omega)) rfl rfl
 ·intro a' w' hF' hb hd
  obtain⟨v11_0,e11,h11_1⟩:=sH hd 0 11 rfl rfl rfl rfl
  exact dc0 (r_call Tryz.func74 en74.1 en74.2 (map1 e11)) (dAbs_any _ _ ((k+7+i+2+30)+(i+2+5)+40) _ h11_1) rfl rfl
 ·intro a' w' hF' hb hd
  exact dc0 (r_call Tryz.func72 en72.1 en72.2 (map2 ev_c ev_c)) (dOf_any (1) (1080) _ (by decide) (by decide) (by decide) (by decide)) rfl rfl
 ·intro a' w' hF' hb hd
  obtain⟨v12_0,e12,h12_1⟩:=sH hd 0 12 rfl rfl rfl rfl
  obtain⟨v13_0,e13,h13_1⟩:=sH hd 1 13 rfl rfl rfl rfl
  exact dc0 (r_call Tryz.func71 en71.1 en71.2 (map2 e12 e13)) (dMul2_any _ _ _ _ ((k+7+i+2+30)+(i+2+5)+40) 2 _ h12_1 h13_1 (by omega) (by omega) (by omega) (by omega)) rfl rfl
 ·intro a' w' hF' hb hd
  obtain⟨v9_0,e9,h9_1⟩:=sH hd 0 9 rfl rfl rfl rfl
  obtain⟨v14_0,e14,h14_1⟩:=sH hd 1 14 rfl rfl rfl rfl
  exact dc0 (r_call Tryz.func70 en70.1 en70.2 (map2 e9 e14)) (dSub2_any _ _ _ _ 2 (((k+7+i+2+30)+(i+2+5)+40)+2) _ h9_1 h14_1 (by omega) (by omega) (by omega) (by omega)) rfl rfl
 ·intro a' w' hF' hb hd
  exact da0 ty_RRat rfl hb.size rfl
 intro a w8 hF bb hall hne
 have s0:=st
 replace st:=st.to bb
 obtain⟨vv9,e15,hh10⟩:=sS hall 6 15 rfl rfl
 replace st:=st.add hh10 (Rr.cl _)
 clear hh10
 obtain⟨_,e4,g4,rfl,ge4,o4⟩:=sS hall 7 4 rfl rfl
 replace st:=st.push o4.blk (Nat.le_trans s0.bel.size ge4) (s0.ne ge4)
 clear o4
 clear hall hne bb s0
 obtain⟨b11,ad11,n11,c11,ae11,m11,d11,rfl⟩:=Rr.form (st.f 0 rfl)
 replace hF:=hF.add e15
 clear e15
 replace hF:=hF.add e4
 clear e4
 refine S.sto st hF 0 rfl (hF.at 0 rfl) (hF.at 1 rfl) ty_RRat rfl rfl rfl rfl fun w12 a st hF=>?_
 refine E.nil ?_
 refine wp_seq ?_
 refine E.drawn 6 mixed hF [16,17,18,19,20,5] [(fun _ v=>v= .agg #[.bool b6,.slice ad6 n6 c6,.slice ae6 m6 d6]),(fun _ v=>v= .int .i64 (spk (pk (mof (q1) (pay))+1)-spk (pk (mof (q1) (pay))))),(fun w v=>Rr w v (((spk (pk (mof (q1) (pay))+1)-spk (pk (mof (q1) (pay))):Int):Rat)/((225:Int):Rat)) (2)),(fun _ v=>v= .agg #[.bool b11,.slice ad11 n11 c11,.slice ae11 m11 d11]),(fun w v=>Rr w v ((((spk (pk (mof (q1) (pay))+1)-spk (pk (mof (q1) (pay))):Int):Rat)/((225:Int):Rat))*((((14:Int):Rat)/((360:Int):Rat))-((Rat.abs (sof (mof (q1) (pay))))*(((1:Int):Rat)/((1080:Int):Rat))))) ((2+(2+(((k+7+i+2+30)+(i+2+5)+40)+2)+1)))),(fun w v=>∃g,v= .pointer (some ⟨g,0,none⟩)∧w12.heap.size≤g∧Own w g [.bool false,.slice none 0 0,.slice none 0 0])] [5] (by decide+kernel) (by decide+kernel) rfl rfl rfl ⟨(Mb.eq _),(Mb.eq _),(fun _ _ _ h hb=>h.below hb),(Mb.eq _),(fun _ _ _ h hb=>h.below hb),(fun _ _ _ ⟨g,e,l,o⟩ hb=>⟨g,e,l,o.below hb⟩),trivial⟩ ⟨fun _ _ ⟨g,e,_,o⟩=>⟨g,e,o.lt⟩,trivial⟩ ⟨?_,?_,?_,?_,?_,?_,trivial⟩ ?_
 ·intro a' w' hF' hb hd
  exact dv0 (r_load (hF'.at 2 rfl) (ld_all ty_RRat ((st.bk 1 rfl).below hb) rfl)) rfl rfl rfl
 ·intro a' w' hF' hb hd
  have e16:=sHe hd 0 16 rfl rfl rfl rfl
  exact dcx0 (r_call Tryz.func83 en83.1 en83.2 (map1 e16)) (rstep2_any _ _ (k+7+i+2+30) (i+2+5) _ ((st.f 1 rfl).below hb) (mof_lim li1 pay_lim) (by omega) (by omega) (by omega)) (fun _=>rfl) rfl rfl
 ·intro a' w' hF' hb hd
  have e17:=sHe hd 0 17 rfl rfl rfl rfl
  exact dc0 (r_call Tryz.func72 en72.1 en72.2 (map2 e17 ev_c)) (dOf_any (spk (pk (mof (q1) (pay))+1)-spk (pk (mof (q1) (pay)))) (225) _ (by omega) (by omega) (by decide) (by decide)) rfl rfl
 ·intro a' w' hF' hb hd
  exact dv0 (r_load (hF'.at 0 rfl) (ld_all ty_RRat ((st.bk 0 rfl).below hb) rfl)) rfl rfl rfl
 ·intro a' w' hF' hb hd
  obtain⟨v18_0,e18,h18_1⟩:=sH hd 0 18 rfl rfl rfl rfl
  have e19:=sHe hd 1 19 rfl rfl rfl rfl
  exact dc0 (r_call Tryz.func71 en71.1 en71.2 (map2 e18 e19)) (dMul2_any _ _ _ _ 2 (2+(((k+7+i+2+30)+(i+2+5)+40)+2)+1) _ h18_1 ((st.f 0 rfl).below hb) (by omega) (by omega) (by omega) (by omega)) rfl rfl
 ·intro a' w' hF' hb hd
  exact da0 ty_RRat rfl hb.size rfl
 intro a w13 hF bb hall hne
 have s0:=st
 replace st:=st.to bb
 obtain⟨vv14,e20,hh15⟩:=sS hall 4 20 rfl rfl
 replace st:=st.add hh15 (Rr.cl _)
 clear hh15
 obtain⟨_,e5,g5,rfl,ge5,o5⟩:=sS hall 5 5 rfl rfl
 replace st:=st.push o5.blk (Nat.le_trans s0.bel.size ge5) (s0.ne ge5)
 clear o5
 clear hall hne bb s0
 obtain⟨b16,ad16,n16,c16,ae16,m16,d16,rfl⟩:=Rr.form (st.f 0 rfl)
 replace hF:=hF.add e20
 clear e20
 replace hF:=hF.add e5
 clear e5
 refine S.sto st hF 0 rfl (hF.at 0 rfl) (hF.at 1 rfl) ty_RRat rfl rfl rfl rfl fun w17 a st hF=>?_
 refine E.nil ?_
 refine wp_seq ?_
 refine E.drawn 7 mixed hF [21,22,23,24,25,26,27] [(fun w v=>Rr w v (((360:Int):Rat)) (2)),(fun w v=>Rr w v (pyr) (7)),(fun w v=>Rr w v ((((360:Int):Rat))/(pyr)) ((2+7))),(fun w v=>Rr w v (((1:Int):Rat)) (2)),(fun _ v=>v= .agg #[.bool b16,.slice ad16 n16 c16,.slice ae16 m16 d16]),(fun w v=>Rr w v ((((1:Int):Rat))-((((spk (pk (mof (q1) (pay))+1)-spk (pk (mof (q1) (pay))):Int):Rat)/((225:Int):Rat))*((((14:Int):Rat)/((360:Int):Rat))-((Rat.abs (sof (mof (q1) (pay))))*(((1:Int):Rat)/((1080:Int):Rat)))))) ((2+(2+(2+(((k+7+i+2+30)+(i+2+5)+40)+2)+1))+1))),(fun w v=>Rr w v (((((360:Int):Rat))/(pyr))*((((1:Int):Rat))-((((spk (pk (mof (q1) (pay))+1)-spk (pk (mof (q1) (pay))):Int):Rat)/((225:Int):Rat))*((((14:Int):Rat)/((360:Int):Rat))-((Rat.abs (sof (mof (q1) (pay))))*(((1:Int):Rat)/((1080:Int):Rat))))))) (((2+7)+(2+(2+(2+(((k+7+i+2+30)+(i+2+5)+40)+2)+1))+1))))] [] (by decide+kernel) (by decide+kernel) rfl rfl rfl ⟨(fun _ _ _ h hb=>h.below hb),(fun _ _ _ h hb=>h.below hb),(fun _ _ _ h hb=>h.below hb),(fun _ _ _ h hb=>h.below hb),(Mb.eq _),(fun _ _ _ h hb=>h.below hb),(fun _ _ _ h hb=>h.below hb),trivial⟩ trivial ⟨?_,?_,?_,?_,?_,?_,?_,trivial⟩ ?_
 ·intro a' w' hF' hb hd
  exact dc0 (r_call Tryz.func72 en72.1 en72.2 (map2 ev_c ev_c)) (dOf1b_any (360) _ (by decide) (by decide)) rfl rfl
 ·intro a' w' hF' hb hd
  exact dc0 (r_call Tryz.func85 en85.1 en85.2 map0) (rYear11_any _) rfl rfl
 ·intro a' w' hF' hb hd
  obtain⟨v21_0,e21,h21_1⟩:=sH hd 0 21 rfl rfl rfl rfl
  obtain⟨v22_0,e22,h22_1⟩:=sH hd 1 22 rfl rfl rfl rfl
  exact dc0 (r_call Tryz.func84 en84.1 en84.2 (map2 e21 e22)) (dDiv2_any _ _ _ (pyr) 2 7 _ h21_1 h22_1 (by omega) (by omega) (by omega) (by omega)) rfl rfl
 ·intro a' w' hF' hb hd
  exact dc0 (r_call Tryz.func72 en72.1 en72.2 (map2 ev_c ev_c)) (dOf1b_any (1) _ (by decide) (by decide)) rfl rfl
 ·intro a' w' hF' hb hd
  exact dv0 (r_load (hF'.at 0 rfl) (ld_all ty_RRat ((st.bk 0 rfl).below hb) rfl)) rfl rfl rfl
 ·intro a' w' hF' hb hd
  obtain⟨v24_0,e24,h24_1⟩:=sH hd 0 24 rfl rfl rfl rfl
  have e25:=sHe hd 1 25 rfl rfl rfl rfl
  exact dc0 (r_call Tryz.func70 en70.1 en70.2 (map2 e24 e25)) (dSub2_any _ _ _ _ 2 (2+(2+(((k+7+i+2+30)+(i+2+5)+40)+2)+1)) _ h24_1 ((st.f 0 rfl).below hb) (by omega) (by omega) (by omega) (by omega)) rfl rfl
 ·intro a' w' hF' hb hd
  obtain⟨v23_0,e23,h23_1⟩:=sH hd 0 23 rfl rfl rfl rfl
  obtain⟨v26_0,e26,h26_1⟩:=sH hd 1 26 rfl rfl rfl rfl
  exact dc0 (r_call Tryz.func71 en71.1 en71.2 (map2 e23 e26)) (dMul2_any _ _ _ _ (2+7) (2+(2+(2+(((k+7+i+2+30)+(i+2+5)+40)+2)+1))+1) _ h23_1 h26_1 (by omega) (by omega) (by omega) (by omega)) rfl rfl
 intro a w18 hF bb hall hne
 replace st:=st.to bb
 obtain⟨vv19,e27,hh20⟩:=sS hall 6 27 rfl rfl
 replace st:=st.add hh20 (Rr.cl _)
 clear hh20
 clear hall hne bb
 obtain⟨b21,ad21,n21,c21,ae21,m21,d21,rfl⟩:=Rr.form (st.f 0 rfl)
 replace hF:=hF.add e27
 clear e27
 refine S.sto st hF 3 rfl (hF.at 7 rfl) (hF.at 0 rfl) ty_RRat rfl rfl rfl rfl fun w22 a st hF=>?_
 refine E.nil ?_
 refine wp_ret ?_
 refine S.ret Tryz.results19 st hF (hF.at 7 rfl) 3 rfl ty_RRat rfl hF.dfr ?_
 have bel:=st.bel
 exact⟨_,rfl,Rr.cast (Rr.up (st.f 0 rfl) _ (by omega)) rfl,bel⟩
theorem rRising14_any (v1:Value) (q1:Rat) (k i:Nat) (w:World) (h1:Rr w v1 q1 k) (li1:RLim q1 i) (hp:1≤k) (hk:k≤3) (hi:i≤3):
 Calls Tryz.prog 21 #[v1] w (RrPost w (risV q1) 2):=by
 obtain⟨b1,ad1,n1,c1,ae1,m1,d1,z1,D1,rfl,hn1,hd1,hD1,hq1,lz1,lD1⟩:=h1.shape
 have h1:Rr w (.agg #[.bool b1,.slice ad1 n1 c1,.slice ae1 m1 d1]) q1 k:=⟨_,_,_,_,_,_,_,_,_,rfl,hn1,hd1,hD1,hq1,lz1,lD1⟩
 have ha1:=hn1.abs
 have hb1:=hn1.neg
 replace hq1:=Lib.hid hq1
 have hpt:=prt_bd (x:=rmod (tropV q1) ((360:Int):Rat)) (n:=12) (by omega) (rmod_low c360_pos) (rmod_high c360_pos)
 have bel:Below w.heap.size w w:=Below.refl _ _
 refine E.enter (nt:=17) (L:=[(0,.agg #[.bool b1,.slice ad1 n1 c1,.slice ae1 m1 d1])]) Tryz.func21 rfl rfl rfl (args_cons (i:=0) rfl args_nil) ?_
 intro a hF
 refine wp_seq ?_
 refine E.seq ?_
 obtain⟨g1,w1,ge1,hr,bb,o1⟩:=own_box (P:=Tryz.prog) (w:=w) (cs:=[.bool b1,.slice ad1 n1 c1,.slice ae1 m1 d1]) (v:= .agg #[.bool b1,.slice ad1 n1 c1,.slice ae1 m1 d1]) 39 rfl (niB (niS (niS ni0)))
 replace ge1:w.heap.size≤g1:=by rw[←ge1];exact bel.size
 refine E.opv hF (r_box (hF.at 0 rfl) hr) rfl rfl rfl rfl fun a hF=>?_
 clear hr
 replace bel:=below_to bel bb
 clear bb
 obtain⟨g2,w2,ge2,hr,bb,o2⟩:=own_alloc (P:=Tryz.prog) (w:=w1) (cs:=[.bool false,.slice none 0 0,.slice none 0 0]) 39 ze_RRat rfl (niB (niS (niS ni0)))
 have ne1_2:g1≠g2:=by rw[←ge2];exact o1.ne_new
 replace ge2:w.heap.size≤g2:=by rw[←ge2];exact bel.size
 refine E.opv hF (r_alloc hr) rfl rfl rfl rfl fun a hF=>?_
 clear hr
 replace o1:=o1.below bb
 replace bel:=below_to bel bb
 clear bb
 refine E.nil ?_
 refine wp_seq ?_
 refine E.seq ?_
 refine E.opv hF (r_load (hF.at 1 rfl) (ld_RRat (vs:=[.bool b1,.slice ad1 n1 c1,.slice ae1 m1 d1]) o1 rfl rfl)) rfl rfl rfl rfl fun a hF=>?_
 refine E.call hF (r_call Tryz.func17 en17.1 en17.2 (map1 (hF.at 0 rfl))) (rTropical14_any _ (q1) k i _ (h1.below bel) li1 (by omega) (by omega) (by omega)) rfl rfl rfl rfl ?_
 rintro e w3 ⟨vv4,rfl,hh5,bb⟩
 refine⟨_,rfl,?_⟩
 intro a hF
 replace o2:=o2.below bb
 replace bel:=below_to bel bb
 clear bb
 obtain⟨b6,ad6,n6,c6,ae6,m6,d6,z6,D6,rfl,hn6,hd6,hD6,hq6,lz6,lD6⟩:=Rr.shape hh5
 have ha6:=hn6.abs
 refine E.call hF (r_call Tryz.func87 en87.1 en87.2 (map2 (hF.at 0 rfl) ev_c)) (rPart12_any _ _ (4*k+14*i+680) (5*i+180) 12 _ hh5 (trop_lim li1) (by omega) (by omega) (by omega) (by omega) (by omega)) rfl rfl rfl rfl ?_
 rintro e w7 ⟨rfl,bb⟩
 refine⟨_,rfl,?_⟩
 intro a hF
 have hpt57068:=prt_bd (x:=rmod (tropV (q1)) ((360:Int):Rat)) (n:=12) (by omega) (rmod_low c360_pos) (rmod_high c360_pos)
 replace o2:=o2.below bb
 replace bel:=below_to bel bb
 clear bb
 refine E.opv hF (r_bin (hF.at 0 rfl) ev_c eg_scalar (id_remn (a:=prt (rmod (tropV (q1)) ((360:Int):Rat)) 12) (b:=6) (by omega) (by omega))) rfl rfl rfl rfl fun a hF=>?_
 refine E.opv hF (r_assign (hF.at 0 rfl)) rfl rfl rfl rfl fun a hF=>?_
 refine E.nil ?_
 refine wp_seq ?_
 refine wp_seq ?_
 refine E.seq ?_
 refine E.opv hF (r_move (hF.at 0 rfl)) rfl rfl rfl rfl fun a hF=>?_
 by_cases hc8:2<(prt (rmod (tropV (q1)) ((360:Int):Rat)) 12)%6
 ·refine E.opv hF (r_bin (hF.at 0 rfl) ev_c eg_scalar (bi_int (ic_gtr (c:=true) (dec_tt hc8)) (by simp))) rfl rfl rfl rfl fun a hF=>?_
  refine E.nil ?_
  refine wp_cond_true (hF.at 0 rfl) ?_
  refine E.seq ?_
  refine E.opv hF (r_move (hF.at 2 rfl)) rfl rfl rfl rfl fun a hF=>?_
  refine E.opv hF (r_bin ev_c (hF.at 0 rfl) eg_scalar (ia_sub (by omega) (by omega))) rfl rfl rfl rfl fun a hF=>?_
  refine E.opset (L':=[(3,.int .i64 (5-((prt (rmod (tropV (q1)) ((360:Int):Rat)) 12)%6))),(11,.int .i64 (5-((prt (rmod (tropV (q1)) ((360:Int):Rat)) 12)%6))),(10,.int .i64 ((prt (rmod (tropV (q1)) ((360:Int):Rat)) 12)%6)),(9,.bool true),(8,.int .i64 ((prt (rmod (tropV (q1)) ((360:Int):Rat)) 12)%6)),(7,.int .i64 ((prt (rmod (tropV (q1)) ((360:Int):Rat)) 12)%6)),(6,.int .i64 (prt (rmod (tropV (q1)) ((360:Int):Rat)) 12)),(5,.agg #[.bool b6,.slice ad6 n6 c6,.slice ae6 m6 d6]),(4,.agg #[.bool b1,.slice ad1 n1 c1,.slice ae1 m1 d1]),(2,.pointer (some ⟨g2,0,none⟩)),(1,.pointer (some ⟨g1,0,none⟩)),(0,.agg #[.bool b1,.slice ad1 n1 c1,.slice ae1 m1 d1])]) hF (r_assign (hF.at 0 rfl)) rfl rfl rfl rfl fun a hF=>?_
  refine E.nil ?_
  refine wp_seq ?_
  refine E.seq ?_
  obtain⟨gl10,w9,hr,bb,ogl10⟩:=bs_r3 w7
  refine E.opv hF (r_buildSlice ps_r3 hr) rfl rfl rfl rfl fun a hF=>?_
  clear hr
  replace o2:=o2.below bb
  replace bel:=below_to bel bb
  clear bb
  refine E.opv hF (r_move (hF.at 1 rfl)) rfl rfl rfl rfl fun a hF=>?_
  have hr3:=r3_bd (5-((prt (rmod (tropV (q1)) ((360:Int):Rat)) 12)%6))
  refine E.opv hF (r_index (hF.at 1 rfl) (hF.at 0 rfl) (ix_int3 (by omega) (by omega))) rfl rfl rfl rfl fun a hF=>?_
  refine E.opv hF (r_load (hF.at 0 rfl) (ldb_int (v:= .int .i64 (r3 (5-((prt (rmod (tropV (q1)) ((360:Int):Rat)) 12)%6)))) ogl10 (r3_at (by omega) (by omega)))) rfl rfl rfl rfl fun a hF=>?_
  refine E.call hF (r_call Tryz.func72 en72.1 en72.2 (map2 (hF.at 0 rfl) ev_c)) (dOf_any (r3 (5-((prt (rmod (tropV (q1)) ((360:Int):Rat)) 12)%6))) (1800) _ (by omega) (by omega) (by decide) (by decide)) rfl rfl rfl rfl ?_
  rintro e w11 ⟨vv12,rfl,hh13,bb⟩
  refine⟨_,rfl,?_⟩
  intro a hF
  replace o2:=o2.below bb
  replace bel:=below_to bel bb
  clear bb
  obtain⟨b14,ad14,n14,c14,ae14,m14,d14,z14,D14,rfl,hn14,hd14,hD14,hq14,lz14,lD14⟩:=Rr.shape hh13
  have ha14:=hn14.abs
  obtain⟨w15,hr,tu,on⟩:=st_RRat (vs:=[.bool b14,.slice ad14 n14 c14,.slice ae14 m14 d14]) o2 rfl rfl (ocB (ocS (ocS oc0))) (niB (niS (niS ni0))) (o:=0) rfl
  have kp:=tu.keep o2
  refine E.st hF (r_store (hF.at 14 rfl) (hF.at 0 rfl) (hr _ rfl)) rfl rfl fun a hF=>?_
  clear hr
  replace hh13:=hh13.keep kp
  replace hn14:=hn14.keep kp
  replace ha14:=ha14.keep kp
  replace hd14:=hd14.keep kp
  replace bel:=tu.below bel ge2
  clear tu kp
  replace o2:=on
  clear on
  refine E.nil ?_
  refine wp_ret ?_
  refine bodyPost_ret (res_cell Tryz.results21 (hF.at 14 rfl) (ld_RRat (vs:=[.bool b14,.slice ad14 n14 c14,.slice ae14 m14 d14]) o2 rfl rfl)) hF.dfr ?_
  have ers:r3 (5-((prt (rmod (tropV (q1)) ((360:Int):Rat)) 12)%6))=risT (prt (tropV q1) 12):=by
   rw[rmod_trop] at*
   unfold r3 risT
   (repeat' split) <;> omega
  exact⟨_,rfl,Rr.cast (Rr.up hh13 _ (by omega)) (by rw[ers];rfl),bel⟩
 ·refine E.opv hF (r_bin (hF.at 0 rfl) ev_c eg_scalar (bi_int (ic_gtr (c:=false) (dec_ff hc8)) (by simp))) rfl rfl rfl rfl fun a hF=>?_
  refine E.nil ?_
  refine wp_cond_false (hF.at 0 rfl) ?_
  refine wp_skip ?_
  refine E.norm ?_
  refine wp_seq ?_
  refine E.seq ?_
  obtain⟨gl17,w16,hr,bb,ogl17⟩:=bs_r3 w7
  refine E.opv hF (r_buildSlice ps_r3 hr) rfl rfl rfl rfl fun a hF=>?_
  clear hr
  replace o2:=o2.below bb
  replace bel:=below_to bel bb
  clear bb
  refine E.opv hF (r_move (hF.at 3 rfl)) rfl rfl rfl rfl fun a hF=>?_
  have hr3:=r3_bd ((prt (rmod (tropV (q1)) ((360:Int):Rat)) 12)%6)
  refine E.opv hF (r_index (hF.at 1 rfl) (hF.at 0 rfl) (ix_int3 (by omega) (by omega))) rfl rfl rfl rfl fun a hF=>?_
  refine E.opv hF (r_load (hF.at 0 rfl) (ldb_int (v:= .int .i64 (r3 ((prt (rmod (tropV (q1)) ((360:Int):Rat)) 12)%6))) ogl17 (r3_at (by omega) (by omega)))) rfl rfl rfl rfl fun a hF=>?_
  refine E.call hF (r_call Tryz.func72 en72.1 en72.2 (map2 (hF.at 0 rfl) ev_c)) (dOf_any (r3 ((prt (rmod (tropV (q1)) ((360:Int):Rat)) 12)%6)) (1800) _ (by omega) (by omega) (by decide) (by decide)) rfl rfl rfl rfl ?_
  rintro e w18 ⟨vv19,rfl,hh20,bb⟩
  refine⟨_,rfl,?_⟩
  intro a hF
  replace o2:=o2.below bb
  replace bel:=below_to bel bb
  clear bb
  obtain⟨b21,ad21,n21,c21,ae21,m21,d21,z21,D21,rfl,hn21,hd21,hD21,hq21,lz21,lD21⟩:=Rr.shape hh20
  have ha21:=hn21.abs
  obtain⟨w22,hr,tu,on⟩:=st_RRat (vs:=[.bool b21,.slice ad21 n21 c21,.slice ae21 m21 d21]) o2 rfl rfl (ocB (ocS (ocS oc0))) (niB (niS (niS ni0))) (o:=0) rfl
  have kp:=tu.keep o2
  refine E.st hF (r_store (hF.at 12 rfl) (hF.at 0 rfl) (hr _ rfl)) rfl rfl fun a hF=>?_
  clear hr
  replace hh20:=hh20.keep kp
  replace hn21:=hn21.keep kp
  replace ha21:=ha21.keep kp
  replace hd21:=hd21.keep kp
  replace bel:=tu.below bel ge2
  clear tu kp
  replace o2:=on
  clear on
  refine E.nil ?_
  refine wp_ret ?_
  refine bodyPost_ret (res_cell Tryz.results21 (hF.at 12 rfl) (ld_RRat (vs:=[.bool b21,.slice ad21 n21 c21,.slice ae21 m21 d21]) o2 rfl rfl)) hF.dfr ?_
  have ers:r3 ((prt (rmod (tropV (q1)) ((360:Int):Rat)) 12)%6)=risT (prt (tropV q1) 12):=by
   rw[rmod_trop] at*
   unfold r3 risT
   (repeat' split) <;> omega
  exact⟨_,rfl,Rr.cast (Rr.up hh20 _ (by omega)) (by rw[ers];rfl),bel⟩
theorem rEquation14_any (v1:Value) (q1:Rat) (k i:Nat) (w:World) (h1:Rr w v1 q1 k) (li1:RLim q1 i) (hp:1≤k) (hk:k≤3) (hi:i≤3):
 Calls Tryz.prog 23 #[v1] w (RrPost w (eqnV q1) (3*k+6*i+350)):=by
 obtain⟨b1,ad1,n1,c1,ae1,m1,d1,rfl⟩:=h1.form
 have st:=St.start w
 refine E.enter (nt:=31) (L:=[(0,.agg #[.bool b1,.slice ad1 n1 c1,.slice ae1 m1 d1])]) Tryz.func23 rfl rfl rfl (args_cons (i:=0) rfl args_nil) ?_
 intro a hF
 refine wp_seq ?_
 refine E.seq ?_
 refine S.box st hF (hF.at 0 rfl) rfl rfl fun g1 w1 a st hF=>?_
 refine S.alloc st hF ty_RRat rfl rfl fun g2 w2 a st hF=>?_
 refine E.nil ?_
 refine wp_seq ?_
 refine E.drawn 5 mixed hF [6,7,8,9,3] [(fun _ v=>v= .agg #[.bool b1,.slice ad1 n1 c1,.slice ae1 m1 d1]),(fun w v=>Rr w v (pay) (7)),(fun w v=>Rr w v (mof (q1) (pay)) ((k+7+i+2+30))),(fun w v=>Rr w v (sof (mof (q1) (pay))) (((k+7+i+2+30)+(i+2+5)+40))),(fun w v=>∃g,v= .pointer (some ⟨g,0,none⟩)∧w2.heap.size≤g∧Own w g [.bool false,.slice none 0 0,.slice none 0 0])] [4] (by decide+kernel) (by decide+kernel) rfl rfl rfl ⟨(Mb.eq _),(fun _ _ _ h hb=>h.below hb),(fun _ _ _ h hb=>h.below hb),(fun _ _ _ h hb=>h.below hb),(fun _ _ _ ⟨g,e,l,o⟩ hb=>⟨g,e,l,o.below hb⟩),trivial⟩ ⟨fun _ _ ⟨g,e,_,o⟩=>⟨g,e,o.lt⟩,trivial⟩ ⟨?_,?_,?_,?_,?_,trivial⟩ ?_
 ·intro a' w' hF' hb hd
  exact dv0 (r_load (hF'.at 1 rfl) (ld_all ty_RRat ((st.bk 1 rfl).below hb) rfl)) rfl rfl rfl
 ·intro a' w' hF' hb hd
  exact dc0 (r_call Tryz.func81 en81.1 en81.2 map0) (rAnomalyYear11_any _) rfl rfl
 ·intro a' w' hF' hb hd
  have e6:=sHe hd 0 6 rfl rfl rfl rfl
  obtain⟨v7_0,e7,h7_1⟩:=sH hd 1 7 rfl rfl rfl rfl
  exact dc0 (r_call Tryz.func80 en80.1 en80.2 (map2 e6 e7)) (rMof_any _ _ (q1) (pay) k 7 i 2 _ (h1.below (below_to st.bel hb)) h7_1 li1 pay_lim (by omega) (by omega) (by omega) (by omega) (by omega) (by omega)) rfl rfl
 ·intro a' w' hF' hb hd
  obtain⟨v8_0,e8,h8_1⟩:=sH hd 0 8 rfl rfl rfl rfl
  exact dc0 (r_call Tryz.func82 en82.1 en82.2 (map1 e8)) (rsof2_any _ _ (k+7+i+2+30) (i+2+5) _ h8_1 (mof_lim li1 pay_lim) (by omega) (by omega) (by omega)) rfl rfl
 ·intro a' w' hF' hb hd
  exact da0 ty_RRat rfl hb.size rfl
 intro a w3 hF bb hall hne
 have s0:=st
 replace st:=st.to bb
 obtain⟨vv4,e9,hh5⟩:=sS hall 3 9 rfl rfl
 replace st:=st.add hh5 (Rr.cl _)
 clear hh5
 obtain⟨_,e3,g3,rfl,ge3,o3⟩:=sS hall 4 3 rfl rfl
 replace st:=st.push o3.blk (Nat.le_trans s0.bel.size ge3) (s0.ne ge3)
 clear o3
 clear hall hne bb s0
 obtain⟨b6,ad6,n6,c6,ae6,m6,d6,rfl⟩:=Rr.form (st.f 0 rfl)
 replace hF:=hF.add e9
 clear e9
 replace hF:=hF.add e3
 clear e3
 refine S.sto st hF 0 rfl (hF.at 0 rfl) (hF.at 1 rfl) ty_RRat rfl rfl rfl rfl fun w7 a st hF=>?_
 refine E.nil ?_
 refine wp_seq ?_
 refine E.drawn 7 mixed hF [10,11,12,13,14,15,4] [(fun w v=>Rr w v (((14:Int):Rat)/((360:Int):Rat)) (2)),(fun _ v=>v= .agg #[.bool b6,.slice ad6 n6 c6,.slice ae6 m6 d6]),(fun w v=>Rr w v (Rat.abs (sof (mof (q1) (pay)))) (((k+7+i+2+30)+(i+2+5)+40))),(fun w v=>Rr w v (((1:Int):Rat)/((1080:Int):Rat)) (2)),(fun w v=>Rr w v ((Rat.abs (sof (mof (q1) (pay))))*(((1:Int):Rat)/((1080:Int):Rat))) ((((k+7+i+2+30)+(i+2+5)+40)+2))),(fun w v=>Rr w v ((((14:Int):Rat)/((360:Int):Rat))-((Rat.abs (sof (mof (q1) (pay))))*(((1:Int):Rat)/((1080:Int):Rat)))) ((2+(((k+7+i+2+30)+(i+2+5)+40)+2)+1))),(fun w v=>∃g,v= .pointer (some ⟨g,0,none⟩)∧w7.heap.size≤g∧Own w g [.bool false,.slice none 0 0,.slice none 0 0])] [6] (by decide+kernel) (by decide+kernel) rfl rfl rfl ⟨(fun _ _ _ h hb=>h.below hb),(Mb.eq _),(fun _ _ _ h hb=>h.below hb),(fun _ _ _ h hb=>h.below hb),(fun _ _ _ h hb=>h.below hb),(fun _ _ _ h hb=>h.below hb),(fun _ _ _ ⟨g,e,l,o⟩ hb=>⟨g,e,l,o.below hb⟩),trivial⟩ ⟨fun _ _ ⟨g,e,_,o⟩=>⟨g,e,o.lt⟩,trivial⟩ ⟨?_,?_,?_,?_,?_,?_,?_,trivial⟩ ?_
 ·intro a' w' hF' hb hd
  exact dc0 (r_call Tryz.func72 en72.1 en72.2 (map2 ev_c ev_c)) (dOf_any (14) (360) _ (by decide) (by decide) (by decide) (by decide)) rfl rfl
 ·intro a' w' hF' hb hd
  exact dv0 (r_load (hF'.at 0 rfl) (ld_all ty_RRat ((st.bk 0 rfl).below hb) rfl)) rfl rfl rfl
 ·intro a' w' hF' hb hd
  have e11:=sHe hd 0 11 rfl rfl rfl rfl
  exact dc0 (r_call Tryz.func74 en74.1 en74.2 (map1 e11)) (dAbs_any _ _ ((k+7+i+2+30)+(i+2+5)+40) _ ((st.f 0 rfl).below hb)) rfl rfl
 ·intro a' w' hF' hb hd
  exact dc0 (r_call Tryz.func72 en72.1 en72.2 (map2 ev_c ev_c)) (dOf_any (1) (1080) _ (by decide) (by decide) (by decide) (by decide)) rfl rfl
 ·intro a' w' hF' hb hd
  obtain⟨v12_0,e12,h12_1⟩:=sH hd 0 12 rfl rfl rfl rfl
  obtain⟨v13_0,e13,h13_1⟩:=sH hd 1 13 rfl rfl rfl rfl
  exact dc0 (r_call Tryz.func71 en71.1 en71.2 (map2 e12 e13)) (dMul2_any _ _ _ _ ((k+7+i+2+30)+(i+2+5)+40) 2 _ h12_1 h13_1 (by omega) (by omega) (by omega) (by omega)) rfl rfl
 ·intro a' w' hF' hb hd
  obtain⟨v10_0,e10,h10_1⟩:=sH hd 0 10 rfl rfl rfl rfl
  obtain⟨v14_0,e14,h14_1⟩:=sH hd 1 14 rfl rfl rfl rfl
  exact dc0 (r_call Tryz.func70 en70.1 en70.2 (map2 e10 e14)) (dSub2_any _ _ _ _ 2 (((k+7+i+2+30)+(i+2+5)+40)+2) _ h10_1 h14_1 (by omega) (by omega) (by omega) (by omega)) rfl rfl
 ·intro a' w' hF' hb hd
  exact da0 ty_RRat rfl hb.size rfl
 intro a w8 hF bb hall hne
 have s0:=st
 replace st:=st.to bb
 obtain⟨vv9,e15,hh10⟩:=sS hall 5 15 rfl rfl
 replace st:=st.add hh10 (Rr.cl _)
 clear hh10
 obtain⟨_,e4,g4,rfl,ge4,o4⟩:=sS hall 6 4 rfl rfl
 replace st:=st.push o4.blk (Nat.le_trans s0.bel.size ge4) (s0.ne ge4)
 clear o4
 clear hall hne bb s0
 obtain⟨b11,ad11,n11,c11,ae11,m11,d11,rfl⟩:=Rr.form (st.f 0 rfl)
 replace hF:=hF.add e15
 clear e15
 replace hF:=hF.add e4
 clear e4
 refine S.sto st hF 0 rfl (hF.at 0 rfl) (hF.at 1 rfl) ty_RRat rfl rfl rfl rfl fun w12 a st hF=>?_
 refine E.nil ?_
 refine wp_seq ?_
 refine E.drawn 6 mixed hF [16,17,18,19,20,5] [(fun _ v=>v= .agg #[.bool b6,.slice ad6 n6 c6,.slice ae6 m6 d6]),(fun w v=>Rr w v (((573:Int):Rat)/((10:Int):Rat)) (2)),(fun w v=>Rr w v ((sof (mof (q1) (pay)))*(((573:Int):Rat)/((10:Int):Rat))) ((((k+7+i+2+30)+(i+2+5)+40)+2))),(fun _ v=>v= .agg #[.bool b11,.slice ad11 n11 c11,.slice ae11 m11 d11]),(fun w v=>Rr w v (((sof (mof (q1) (pay)))*(((573:Int):Rat)/((10:Int):Rat)))*((((14:Int):Rat)/((360:Int):Rat))-((Rat.abs (sof (mof (q1) (pay))))*(((1:Int):Rat)/((1080:Int):Rat))))) (((((k+7+i+2+30)+(i+2+5)+40)+2)+(2+(((k+7+i+2+30)+(i+2+5)+40)+2)+1)))),(fun w v=>∃g,v= .pointer (some ⟨g,0,none⟩)∧w12.heap.size≤g∧Own w g [.bool false,.slice none 0 0,.slice none 0 0])] [5] (by decide+kernel) (by decide+kernel) rfl rfl rfl ⟨(Mb.eq _),(fun _ _ _ h hb=>h.below hb),(fun _ _ _ h hb=>h.below hb),(Mb.eq _),(fun _ _ _ h hb=>h.below hb),(fun _ _ _ ⟨g,e,l,o⟩ hb=>⟨g,e,l,o.below hb⟩),trivial⟩ ⟨fun _ _ ⟨g,e,_,o⟩=>⟨g,e,o.lt⟩,trivial⟩ ⟨?_,?_,?_,?_,?_,?_,trivial⟩ ?_
 ·intro a' w' hF' hb hd
  exact dv0 (r_load (hF'.at 2 rfl) (ld_all ty_RRat ((st.bk 1 rfl).below hb) rfl)) rfl rfl rfl
 ·intro a' w' hF' hb hd
  exact dc0 (r_call Tryz.func72 en72.1 en72.2 (map2 ev_c ev_c)) (dOf_any (573) (10) _ (by decide) (by decide) (by decide) (by decide)) rfl rfl
 ·intro a' w' hF' hb hd
  have e16:=sHe hd 0 16 rfl rfl rfl rfl
  obtain⟨v17_0,e17,h17_1⟩:=sH hd 1 17 rfl rfl rfl rfl
  exact dc0 (r_call Tryz.func71 en71.1 en71.2 (map2 e16 e17)) (dMul2_any _ _ _ _ ((k+7+i+2+30)+(i+2+5)+40) 2 _ ((st.f 1 rfl).below hb) h17_1 (by omega) (by omega) (by omega) (by omega)) rfl rfl
 ·intro a' w' hF' hb hd
  exact dv0 (r_load (hF'.at 0 rfl) (ld_all ty_RRat ((st.bk 0 rfl).below hb) rfl)) rfl rfl rfl
 ·intro a' w' hF' hb hd
  obtain⟨v18_0,e18,h18_1⟩:=sH hd 0 18 rfl rfl rfl rfl
  have e19:=sHe hd 1 19 rfl rfl rfl rfl
  exact dc0 (r_call Tryz.func71 en71.1 en71.2 (map2 e18 e19)) (dMul2_any _ _ _ _ (((k+7+i+2+30)+(i+2+5)+40)+2) (2+(((k+7+i+2+30)+(i+2+5)+40)+2)+1) _ h18_1 ((st.f 0 rfl).below hb) (by omega) (by omega) (by omega) (by omega)) rfl rfl
 ·intro a' w' hF' hb hd
  exact da0 ty_RRat rfl hb.size rfl
 intro a w13 hF bb hall hne
 have s0:=st
 replace st:=st.to bb
 obtain⟨vv14,e20,hh15⟩:=sS hall 4 20 rfl rfl
 replace st:=st.add hh15 (Rr.cl _)
 clear hh15
 obtain⟨_,e5,g5,rfl,ge5,o5⟩:=sS hall 5 5 rfl rfl
 replace st:=st.push o5.blk (Nat.le_trans s0.bel.size ge5) (s0.ne ge5)
 clear o5
 clear hall hne bb s0
 obtain⟨b16,ad16,n16,c16,ae16,m16,d16,rfl⟩:=Rr.form (st.f 0 rfl)
 replace hF:=hF.add e20
 clear e20
 replace hF:=hF.add e5
 clear e5
 refine S.sto st hF 0 rfl (hF.at 0 rfl) (hF.at 1 rfl) ty_RRat rfl rfl rfl rfl fun w17 a st hF=>?_
 refine E.nil ?_
 refine wp_seq ?_
 refine E.drawn 10 mixed hF [21,22,23,24,25,26,27,28,29,30] [(fun _ v=>v= .agg #[.bool b1,.slice ad1 n1 c1,.slice ae1 m1 d1]),(fun w v=>Rr w v (motV (q1)) ((k+2*i+130))),(fun w v=>Rr w v (((1:Int):Rat)/((360:Int):Rat)) (2)),(fun w v=>Rr w v ((motV (q1))*(((1:Int):Rat)/((360:Int):Rat))) (((k+2*i+130)+2))),(fun _ v=>v= .agg #[.bool b16,.slice ad16 n16 c16,.slice ae16 m16 d16]),(fun w v=>Rr w v (((1:Int):Rat)/((360:Int):Rat)) (2)),(fun w v=>Rr w v ((((sof (mof (q1) (pay)))*(((573:Int):Rat)/((10:Int):Rat)))*((((14:Int):Rat)/((360:Int):Rat))-((Rat.abs (sof (mof (q1) (pay))))*(((1:Int):Rat)/((1080:Int):Rat)))))*(((1:Int):Rat)/((360:Int):Rat))) ((((((k+7+i+2+30)+(i+2+5)+40)+2)+(2+(((k+7+i+2+30)+(i+2+5)+40)+2)+1))+2))),(fun w v=>Rr w v (((motV (q1))*(((1:Int):Rat)/((360:Int):Rat)))*((((sof (mof (q1) (pay)))*(((573:Int):Rat)/((10:Int):Rat)))*((((14:Int):Rat)/((360:Int):Rat))-((Rat.abs (sof (mof (q1) (pay))))*(((1:Int):Rat)/((1080:Int):Rat)))))*(((1:Int):Rat)/((360:Int):Rat)))) ((((k+2*i+130)+2)+(((((k+7+i+2+30)+(i+2+5)+40)+2)+(2+(((k+7+i+2+30)+(i+2+5)+40)+2)+1))+2)))),(fun w v=>Rr w v (pyr) (7)),(fun w v=>Rr w v ((((motV (q1))*(((1:Int):Rat)/((360:Int):Rat)))*((((sof (mof (q1) (pay)))*(((573:Int):Rat)/((10:Int):Rat)))*((((14:Int):Rat)/((360:Int):Rat))-((Rat.abs (sof (mof (q1) (pay))))*(((1:Int):Rat)/((1080:Int):Rat)))))*(((1:Int):Rat)/((360:Int):Rat))))*(pyr)) (((((k+2*i+130)+2)+(((((k+7+i+2+30)+(i+2+5)+40)+2)+(2+(((k+7+i+2+30)+(i+2+5)+40)+2)+1))+2))+7)))] [] (by decide+kernel) (by decide+kernel) rfl rfl rfl ⟨(Mb.eq _),(fun _ _ _ h hb=>h.below hb),(fun _ _ _ h hb=>h.below hb),(fun _ _ _ h hb=>h.below hb),(Mb.eq _),(fun _ _ _ h hb=>h.below hb),(fun _ _ _ h hb=>h.below hb),(fun _ _ _ h hb=>h.below hb),(fun _ _ _ h hb=>h.below hb),(fun _ _ _ h hb=>h.below hb),trivial⟩ trivial ⟨?_,?_,?_,?_,?_,?_,?_,?_,?_,?_,trivial⟩ ?_
 ·intro a' w' hF' hb hd
  exact dv0 (r_load (hF'.at 7 rfl) (ld_all ty_RRat ((st.bk 4 rfl).below hb) rfl)) rfl rfl rfl
 ·intro a' w' hF' hb hd
  have e21:=sHe hd 0 21 rfl rfl rfl rfl
  exact dc0 (r_call Tryz.func19 en19.1 en19.2 (map1 e21)) (rMotion14_any _ (q1) k i _ (h1.below (below_to st.bel hb)) li1 (by omega) (by omega) (by omega)) rfl rfl
 ·intro a' w' hF' hb hd
  exact dc0 (r_call Tryz.func72 en72.1 en72.2 (map2 ev_c ev_c)) (dOf_any (1) (360) _ (by decide) (by decide) (by decide) (by decide)) rfl rfl
 ·intro a' w' hF' hb hd
  obtain⟨v22_0,e22,h22_1⟩:=sH hd 0 22 rfl rfl rfl rfl
  obtain⟨v23_0,e23,h23_1⟩:=sH hd 1 23 rfl rfl rfl rfl
  exact dc0 (r_call Tryz.func71 en71.1 en71.2 (map2 e22 e23)) (dMul2_any _ _ _ _ (k+2*i+130) 2 _ h22_1 h23_1 (by omega) (by omega) (by omega) (by omega)) rfl rfl
 ·intro a' w' hF' hb hd
  exact dv0 (r_load (hF'.at 0 rfl) (ld_all ty_RRat ((st.bk 0 rfl).below hb) rfl)) rfl rfl rfl
 ·intro a' w' hF' hb hd
  exact dc0 (r_call Tryz.func72 en72.1 en72.2 (map2 ev_c ev_c)) (dOf_any (1) (360) _ (by decide) (by decide) (by decide) (by decide)) rfl rfl
 ·intro a' w' hF' hb hd
  have e25:=sHe hd 0 25 rfl rfl rfl rfl
  obtain⟨v26_0,e26,h26_1⟩:=sH hd 1 26 rfl rfl rfl rfl
  exact dc0 (r_call Tryz.func71 en71.1 en71.2 (map2 e25 e26)) (dMul2_any _ _ _ _ ((((k+7+i+2+30)+(i+2+5)+40)+2)+(2+(((k+7+i+2+30)+(i+2+5)+40)+2)+1)) 2 _ ((st.f 0 rfl).below hb) h26_1 (by omega) (by omega) (by omega) (by omega)) rfl rfl
 ·intro a' w' hF' hb hd
  obtain⟨v24_0,e24,h24_1⟩:=sH hd 0 24 rfl rfl rfl rfl
  obtain⟨v27_0,e27,h27_1⟩:=sH hd 1 27 rfl rfl rfl rfl
  exact dc0 (r_call Tryz.func71 en71.1 en71.2 (map2 e24 e27)) (dMul2_any _ _ _ _ ((k+2*i+130)+2) (((((k+7+i+2+30)+(i+2+5)+40)+2)+(2+(((k+7+i+2+30)+(i+2+5)+40)+2)+1))+2) _ h24_1 h27_1 (by omega) (by omega) (by omega) (by omega)) rfl rfl
 ·intro a' w' hF' hb hd
  exact dc0 (r_call Tryz.func85 en85.1 en85.2 map0) (rYear11_any _) rfl rfl
 ·intro a' w' hF' hb hd
  obtain⟨v28_0,e28,h28_1⟩:=sH hd 0 28 rfl rfl rfl rfl
  obtain⟨v29_0,e29,h29_1⟩:=sH hd 1 29 rfl rfl rfl rfl
  exact dc0 (r_call Tryz.func71 en71.1 en71.2 (map2 e28 e29)) (dMul2_any _ _ _ (pyr) (((k+2*i+130)+2)+(((((k+7+i+2+30)+(i+2+5)+40)+2)+(2+(((k+7+i+2+30)+(i+2+5)+40)+2)+1))+2)) 7 _ h28_1 h29_1 (by omega) (by omega) (by omega) (by omega)) rfl rfl
 intro a w18 hF bb hall hne
 replace st:=st.to bb
 obtain⟨vv19,e30,hh20⟩:=sS hall 9 30 rfl rfl
 replace st:=st.add hh20 (Rr.cl _)
 clear hh20
 clear hall hne bb
 obtain⟨b21,ad21,n21,c21,ae21,m21,d21,rfl⟩:=Rr.form (st.f 0 rfl)
 replace hF:=hF.add e30
 clear e30
 refine S.sto st hF 3 rfl (hF.at 7 rfl) (hF.at 0 rfl) ty_RRat rfl rfl rfl rfl fun w22 a st hF=>?_
 refine E.nil ?_
 refine wp_ret ?_
 refine S.ret Tryz.results23 st hF (hF.at 7 rfl) 3 rfl ty_RRat rfl hF.dfr ?_
 have bel:=st.bel
 exact⟨_,rfl,Rr.cast (Rr.up (st.f 0 rfl) _ (by omega)) rfl,bel⟩
theorem rDifference14_any (v1 v2:Value) (q1 q2:Rat) (k i:Nat) (w:World) (h1:Rr w v1 q1 k) (h2:Rr w v2 q2 2) (li1:RLim q1 i) (li2:RLim q2 2) (hp:1≤k) (hk:k≤3) (hi:i≤3):
 Calls Tryz.prog 25 #[v1,v2] w (RrPost w (diffV q1 q2) (10*k+50*i+2500)):=by
 obtain⟨b1,ad1,n1,c1,ae1,m1,d1,rfl⟩:=h1.form
 obtain⟨b2,ad2,n2,c2,ae2,m2,d2,rfl⟩:=h2.form
 have st:=St.start w
 refine E.enter (nt:=32) (L:=[(0,.agg #[.bool b1,.slice ad1 n1 c1,.slice ae1 m1 d1]),(1,.agg #[.bool b2,.slice ad2 n2 c2,.slice ae2 m2 d2])]) Tryz.func25 rfl rfl rfl (args_cons (i:=0) rfl (args_cons (i:=1) rfl args_nil)) ?_
 intro a hF
 refine wp_seq ?_
 refine E.seq ?_
 refine S.box st hF (hF.at 0 rfl) rfl rfl fun g2 w1 a st hF=>?_
 refine S.box st hF (hF.at 2 rfl) rfl rfl fun g3 w2 a st hF=>?_
 refine S.alloc st hF ty_RRat rfl rfl fun g4 w3 a st hF=>?_
 refine E.nil ?_
 refine wp_seq ?_
 refine E.drawn 6 mixed hF [8,9,10,11,12,5] [(fun w v=>Rr w v (((1397:Int):Rat)/((3438:Int):Rat)) (2)),(fun _ v=>v= .agg #[.bool b1,.slice ad1 n1 c1,.slice ae1 m1 d1]),(fun w v=>Rr w v (tropV (q1)) ((4*k+14*i+680))),(fun w v=>Rr w v (sof (tropV (q1))) (((4*k+14*i+680)+(5*i+180)+40))),(fun w v=>Rr w v ((((1397:Int):Rat)/((3438:Int):Rat))*(sof (tropV (q1)))) ((2+((4*k+14*i+680)+(5*i+180)+40)))),(fun w v=>∃g,v= .pointer (some ⟨g,0,none⟩)∧w3.heap.size≤g∧Own w g [.bool false,.slice none 0 0,.slice none 0 0])] [5] (by decide+kernel) (by decide+kernel) rfl rfl rfl ⟨(fun _ _ _ h hb=>h.below hb),(Mb.eq _),(fun _ _ _ h hb=>h.below hb),(fun _ _ _ h hb=>h.below hb),(fun _ _ _ h hb=>h.below hb),(fun _ _ _ ⟨g,e,l,o⟩ hb=>⟨g,e,l,o.below hb⟩),trivial⟩ ⟨fun _ _ ⟨g,e,_,o⟩=>⟨g,e,o.lt⟩,trivial⟩ ⟨?_,?_,?_,?_,?_,?_,trivial⟩ ?_
 ·intro a' w' hF' hb hd
  exact dc0 (r_call Tryz.func72 en72.1 en72.2 (map2 ev_c ev_c)) (dOf_any (1397) (3438) _ (by decide) (by decide) (by decide) (by decide)) rfl rfl
 ·intro a' w' hF' hb hd
  exact dv0 (r_load (hF'.at 2 rfl) (ld_all ty_RRat ((st.bk 2 rfl).below hb) rfl)) rfl rfl rfl
 ·intro a' w' hF' hb hd
  have e9:=sHe hd 0 9 rfl rfl rfl rfl
  exact dc0 (r_call Tryz.func17 en17.1 en17.2 (map1 e9)) (rTropical14_any _ (q1) k i _ (h1.below (below_to st.bel hb)) li1 (by omega) (by omega) (by omega)) rfl rfl
 ·intro a' w' hF' hb hd
  obtain⟨v10_0,e10,h10_1⟩:=sH hd 0 10 rfl rfl rfl rfl
  exact dc0 (r_call Tryz.func82 en82.1 en82.2 (map1 e10)) (rsof2_any _ _ (4*k+14*i+680) (5*i+180) _ h10_1 (trop_lim li1) (by omega) (by omega) (by omega)) rfl rfl
 ·intro a' w' hF' hb hd
  obtain⟨v8_0,e8,h8_1⟩:=sH hd 0 8 rfl rfl rfl rfl
  obtain⟨v11_0,e11,h11_1⟩:=sH hd 1 11 rfl rfl rfl rfl
  exact dc0 (r_call Tryz.func71 en71.1 en71.2 (map2 e8 e11)) (dMul2_any _ _ _ _ 2 ((4*k+14*i+680)+(5*i+180)+40) _ h8_1 h11_1 (by omega) (by omega) (by omega) (by omega)) rfl rfl
 ·intro a' w' hF' hb hd
  exact da0 ty_RRat rfl hb.size rfl
 intro a w4 hF bb hall hne
 have s0:=st
 replace st:=st.to bb
 obtain⟨vv5,e12,hh6⟩:=sS hall 4 12 rfl rfl
 replace st:=st.add hh6 (Rr.cl _)
 clear hh6
 obtain⟨_,e5,g5,rfl,ge5,o5⟩:=sS hall 5 5 rfl rfl
 replace st:=st.push o5.blk (Nat.le_trans s0.bel.size ge5) (s0.ne ge5)
 clear o5
 clear hall hne bb s0
 obtain⟨b7,ad7,n7,c7,ae7,m7,d7,rfl⟩:=Rr.form (st.f 0 rfl)
 replace hF:=hF.add e12
 clear e12
 replace hF:=hF.add e5
 clear e5
 refine S.sto st hF 0 rfl (hF.at 0 rfl) (hF.at 1 rfl) ty_RRat rfl rfl rfl rfl fun w8 a st hF=>?_
 refine E.nil ?_
 refine wp_seq ?_
 refine E.seq ?_
 refine E.opv hF (r_load (hF.at 0 rfl) (ld_all ty_RRat (st.bk 0 rfl) rfl)) rfl rfl rfl rfl fun a hF=>?_
 refine S.call st hF (r_call Tryz.func91 en91.1 en91.2 (map1 (hF.at 0 rfl))) (rarc2_any _ _ (2+((4*k+14*i+680)+(5*i+180)+40)) _ (st.f 0 rfl) (by omega) (by omega)) (fun _ _ h=>h) Rr.cl rfl rfl rfl rfl fun vv10 w9 a st hF=>?_
 obtain⟨b12,ad12,n12,c12,ae12,m12,d12,rfl⟩:=Rr.form (st.f 0 rfl)
 refine S.call st hF (r_call Tryz.func72 en72.1 en72.2 (map2 ev_c ev_c)) (dOf1b_any (90) _ (by decide) (by decide)) (fun _ _ h=>h) Rr.cl rfl rfl rfl rfl fun vv14 w13 a st hF=>?_
 obtain⟨b16,ad16,n16,c16,ae16,m16,d16,rfl⟩:=Rr.form (st.f 0 rfl)
 refine S.call st hF (r_call Tryz.func90 en90.1 en90.2 (map2 (hF.at 1 rfl) (hF.at 0 rfl))) (dAdd2_any _ _ _ _ ((2+((4*k+14*i+680)+(5*i+180)+40))+20) 2 _ (st.f 1 rfl) (st.f 0 rfl) (by omega) (by omega) (by omega) (by omega)) (fun _ _ h=>h) Rr.cl rfl rfl rfl rfl fun vv18 w17 a st hF=>?_
 obtain⟨b20,ad20,n20,c20,ae20,m20,d20,rfl⟩:=Rr.form (st.f 0 rfl)
 refine S.call st hF (r_call Tryz.func82 en82.1 en82.2 (map1 (hF.at 0 rfl))) (rsof2_any _ _ (((2+((4*k+14*i+680)+(5*i+180)+40))+20)+2+1) (((2+((5*i+180)+12))+20)+2+1) _ (st.f 0 rfl) (rlim_add (arcv_lim (rlim_mul (lim64q (n:=1397) (d:=3438) (by decide) (by decide) (by decide) (by decide)) (sof_lim2 (trop_lim li1)))) (lim64 (n:=90) (by decide) (by decide))) (by omega) (by omega) (by omega)) (fun _ _ h=>h) Rr.cl rfl rfl rfl rfl fun vv22 w21 a st hF=>?_
 obtain⟨b24,ad24,n24,c24,ae24,m24,d24,rfl⟩:=Rr.form (st.f 0 rfl)
 refine S.new st hF 0 rfl ty_RRat rfl rfl rfl rfl rfl fun g6 w25 a st hF=>?_
 refine E.nil ?_
 refine wp_seq ?_
 refine E.drawn 10 mixed hF [18,19,20,21,22,23,24,25,26,7] [(fun _ v=>v= .agg #[.bool b7,.slice ad7 n7 c7,.slice ae7 m7 d7]),(fun _ v=>v= .agg #[.bool b2,.slice ad2 n2 c2,.slice ae2 m2 d2]),(fun w v=>Rr w v (sof (q2)) ((2+2+40))),(fun w v=>Rr w v (((((1397:Int):Rat)/((3438:Int):Rat))*(sof (tropV (q1))))*(sof (q2))) (((2+((4*k+14*i+680)+(5*i+180)+40))+(2+2+40)))),(fun _ v=>v= .agg #[.bool b2,.slice ad2 n2 c2,.slice ae2 m2 d2]),(fun w v=>Rr w v (((90:Int):Rat)) (2)),(fun w v=>Rr w v ((q2)+(((90:Int):Rat))) ((2+2+1))),(fun w v=>Rr w v (sof ((q2)+(((90:Int):Rat)))) (((2+2+1)+(2+2+1)+40))),(fun w v=>Rr w v ((((((1397:Int):Rat)/((3438:Int):Rat))*(sof (tropV (q1))))*(sof (q2)))/(sof ((q2)+(((90:Int):Rat))))) ((((2+((4*k+14*i+680)+(5*i+180)+40))+(2+2+40))+((2+2+1)+(2+2+1)+40)))),(fun w v=>∃g,v= .pointer (some ⟨g,0,none⟩)∧w25.heap.size≤g∧Own w g [.bool false,.slice none 0 0,.slice none 0 0])] [9] (by decide+kernel) (by decide+kernel) rfl rfl rfl ⟨(Mb.eq _),(Mb.eq _),(fun _ _ _ h hb=>h.below hb),(fun _ _ _ h hb=>h.below hb),(Mb.eq _),(fun _ _ _ h hb=>h.below hb),(fun _ _ _ h hb=>h.below hb),(fun _ _ _ h hb=>h.below hb),(fun _ _ _ h hb=>h.below hb),(fun _ _ _ ⟨g,e,l,o⟩ hb=>⟨g,e,l,o.below hb⟩),trivial⟩ ⟨fun _ _ ⟨g,e,_,o⟩=>⟨g,e,o.lt⟩,trivial⟩ ⟨?_,?_,?_,?_,?_,?_,?_,?_,?_,?_,trivial⟩ ?_
 ·intro a' w' hF' hb hd
  exact dv0 (r_load (hF'.at 6 rfl) (ld_all ty_RRat ((st.bk 1 rfl).below hb) rfl)) rfl rfl rfl
 ·intro a' w' hF' hb hd
  exact dv0 (r_load (hF'.at 9 rfl) (ld_all ty_RRat ((st.bk 3 rfl).below hb) rfl)) rfl rfl rfl
 ·intro a' w' hF' hb hd
  have e19:=sHe hd 0 19 rfl rfl rfl rfl
  exact dc0 (r_call Tryz.func82 en82.1 en82.2 (map1 e19)) (rsof2_any _ (q2) 2 2 _ (h2.below (below_to st.bel hb)) li2 (by omega) (by omega) (by omega)) rfl rfl
 ·intro a' w' hF' hb hd
  have e18:=sHe hd 0 18 rfl rfl rfl rfl
  obtain⟨v20_0,e20,h20_1⟩:=sH hd 1 20 rfl rfl rfl rfl
  exact dc0 (r_call Tryz.func71 en71.1 en71.2 (map2 e18 e20)) (dMul2_any _ _ _ (sof (q2)) (2+((4*k+14*i+680)+(5*i+180)+40)) (2+2+40) _ ((st.f 4 rfl).below hb) h20_1 (by omega) (by omega) (by omega) (by omega)) rfl rfl
 ·intro a' w' hF' hb hd
  exact dv0 (r_load (hF'.at 9 rfl) (ld_all ty_RRat ((st.bk 3 rfl).below hb) rfl)) rfl rfl rfl
 ·intro a' w' hF' hb hd
  exact dc0 (r_call Tryz.func72 en72.1 en72.2 (map2 ev_c ev_c)) (dOf1b_any (90) _ (by decide) (by decide)) rfl rfl
 ·intro a' w' hF' hb hd
  have e22:=sHe hd 0 22 rfl rfl rfl rfl
  obtain⟨v23_0,e23,h23_1⟩:=sH hd 1 23 rfl rfl rfl rfl
  exact dc0 (r_call Tryz.func90 en90.1 en90.2 (map2 e22 e23)) (dAdd2_any _ _ (q2) _ 2 2 _ (h2.below (below_to st.bel hb)) h23_1 (by omega) (by omega) (by omega) (by omega)) rfl rfl
 ·intro a' w' hF' hb hd
  obtain⟨v24_0,e24,h24_1⟩:=sH hd 0 24 rfl rfl rfl rfl
  exact dc0 (r_call Tryz.func82 en82.1 en82.2 (map1 e24)) (rsof2_any _ _ (2+2+1) (2+2+1) _ h24_1 (rlim_add li2 (lim64 (n:=90) (by decide) (by decide))) (by omega) (by omega) (by omega)) rfl rfl
 ·intro a' w' hF' hb hd
  obtain⟨v21_0,e21,h21_1⟩:=sH hd 0 21 rfl rfl rfl rfl
  obtain⟨v25_0,e25,h25_1⟩:=sH hd 1 25 rfl rfl rfl rfl
  exact dc0 (r_call Tryz.func84 en84.1 en84.2 (map2 e21 e25)) (dDiv2_any _ _ _ _ ((2+((4*k+14*i+680)+(5*i+180)+40))+(2+2+40)) ((2+2+1)+(2+2+1)+40) _ h21_1 h25_1 (by omega) (by omega) (by omega) (by omega)) rfl rfl
 ·intro a' w' hF' hb hd
  exact da0 ty_RRat rfl hb.size rfl
 intro a w26 hF bb hall hne
 have s0:=st
 replace st:=st.to bb
 obtain⟨vv27,e26,hh28⟩:=sS hall 8 26 rfl rfl
 replace st:=st.add hh28 (Rr.cl _)
 clear hh28
 obtain⟨_,e7,g7,rfl,ge7,o7⟩:=sS hall 9 7 rfl rfl
 replace st:=st.push o7.blk (Nat.le_trans s0.bel.size ge7) (s0.ne ge7)
 clear o7
 clear hall hne bb s0
 obtain⟨b29,ad29,n29,c29,ae29,m29,d29,rfl⟩:=Rr.form (st.f 0 rfl)
 replace hF:=hF.add e26
 clear e26
 replace hF:=hF.add e7
 clear e7
 refine S.sto st hF 0 rfl (hF.at 0 rfl) (hF.at 1 rfl) ty_RRat rfl rfl rfl rfl fun w30 a st hF=>?_
 refine E.nil ?_
 refine wp_seq ?_
 refine E.seq ?_
 refine E.opv hF (r_load (hF.at 0 rfl) (ld_all ty_RRat (st.bk 0 rfl) rfl)) rfl rfl rfl rfl fun a hF=>?_
 refine E.opv hF (r_load (hF.at 3 rfl) (ld_all ty_RRat (st.bk 1 rfl) rfl)) rfl rfl rfl rfl fun a hF=>?_
 refine S.call st hF (r_call Tryz.func84 en84.1 en84.2 (map2 (hF.at 1 rfl) (hF.at 0 rfl))) (dDiv2_any _ _ _ _ (((2+((4*k+14*i+680)+(5*i+180)+40))+(2+2+40))+((2+2+1)+(2+2+1)+40)) ((((2+((4*k+14*i+680)+(5*i+180)+40))+20)+2+1)+(((2+((5*i+180)+12))+20)+2+1)+40) _ (st.f 0 rfl) (st.f 1 rfl) (by omega) (by omega) (by omega) (by omega)) (fun _ _ h=>h) Rr.cl rfl rfl rfl rfl fun vv32 w31 a st hF=>?_
 obtain⟨b34,ad34,n34,c34,ae34,m34,d34,rfl⟩:=Rr.form (st.f 0 rfl)
 refine S.call st hF (r_call Tryz.func92 en92.1 en92.2 (map1 (hF.at 0 rfl))) (dOpp_any _ _ ((((2+((4*k+14*i+680)+(5*i+180)+40))+(2+2+40))+((2+2+1)+(2+2+1)+40))+((((2+((4*k+14*i+680)+(5*i+180)+40))+20)+2+1)+(((2+((5*i+180)+12))+20)+2+1)+40)) _ (st.f 0 rfl)) (fun _ _ h=>h) Rr.cl rfl rfl rfl rfl fun vv36 w35 a st hF=>?_
 obtain⟨b38,ad38,n38,c38,ae38,m38,d38,rfl⟩:=Rr.form (st.f 0 rfl)
 refine S.call st hF (r_call Tryz.func91 en91.1 en91.2 (map1 (hF.at 0 rfl))) (rarc2_any _ _ ((((2+((4*k+14*i+680)+(5*i+180)+40))+(2+2+40))+((2+2+1)+(2+2+1)+40))+((((2+((4*k+14*i+680)+(5*i+180)+40))+20)+2+1)+(((2+((5*i+180)+12))+20)+2+1)+40)) _ (st.f 0 rfl) (by omega) (by omega)) (fun _ _ h=>h) Rr.cl rfl rfl rfl rfl fun vv40 w39 a st hF=>?_
 obtain⟨b42,ad42,n42,c42,ae42,m42,d42,rfl⟩:=Rr.form (st.f 0 rfl)
 refine S.sto st hF 3 rfl (hF.at 15 rfl) (hF.at 0 rfl) ty_RRat rfl rfl rfl rfl fun w43 a st hF=>?_
 refine E.nil ?_
 refine wp_ret ?_
 refine S.ret Tryz.results25 st hF (hF.at 15 rfl) 3 rfl ty_RRat rfl hF.dfr ?_
 have bel:=st.bel
 exact⟨_,rfl,Rr.cast (Rr.up (st.f 0 rfl) _ (by omega)) rfl,bel⟩
theorem rboth114_any (n:Int) (v1:Value) (qa qo:Rat) (w:World) (ho:RPl w v1 qa qo 2) (la2:RLim qa 2) (lo2:RLim qo 2) (hn0: -4000000≤n) (hn1:n≤4000000):
 Calls Tryz.prog 98 #[.int .i64 n,v1,.int .i64 1,.int .i64 1] w (RrPost w (bothV ((n:Int):Rat) qa qo 1 1) 3300):=by
 obtain⟨bpx,adpx,npx,cpx,aepx,mpx,dpx,bpy,adpy,npy,cpy,aepy,mpy,dpy,rfl,hpx,hpy⟩:=RPl.shape ho
 have ho:RPl w (.agg #[.bool bpx,.slice adpx npx cpx,.slice aepx mpx dpx,.bool bpy,.slice adpy npy cpy,.slice aepy mpy dpy]) qa qo 2:=⟨_,_,_,_,_,_,_,_,_,_,_,_,_,_,rfl,hpx,hpy⟩
 have st:=St.start w
 refine E.enter (nt:=55) (L:=[(0,.int .i64 n),(1,.agg #[.bool bpx,.slice adpx npx cpx,.slice aepx mpx dpx,.bool bpy,.slice adpy npy cpy,.slice aepy mpy dpy]),(2,.int .i64 1),(3,.int .i64 1)]) Tryz.func98 rfl rfl rfl (args_cons (i:=0) rfl (args_cons (i:=1) rfl (args_cons (i:=2) rfl (args_cons (i:=3) rfl args_nil)))) ?_
 intro a hF
 refine wp_seq ?_
 refine E.seq ?_
 refine S.box st hF (hF.at 1 rfl) rfl rfl fun g5 w1 a st hF=>?_
 refine S.alloc st hF ty_RRat rfl rfl fun g8 w2 a st hF=>?_
 refine E.nil ?_
 refine wp_seq ?_
 refine E.seq ?_
 refine E.opv hF (r_move (hF.at 2 rfl)) rfl rfl rfl rfl fun a hF=>?_
 refine S.call st hF (r_call Tryz.func72 en72.1 en72.2 (map2 (hF.at 0 rfl) ev_c)) (dOf1b_any (n) _ (by omega) (by omega)) (fun _ _ h=>h) Rr.cl rfl rfl rfl rfl fun vv4 w3 a st hF=>?_
 obtain⟨b6,ad6,n6,c6,ae6,m6,d6,rfl⟩:=Rr.form (st.f 0 rfl)
 refine S.new st hF 0 rfl ty_RRat rfl rfl rfl rfl rfl fun g9 w7 a st hF=>?_
 refine E.nil ?_
 refine wp_seq ?_
 refine E.drawn 7 mixed hF [16,17,18,19,20,21,10] [(fun w v=>Rr w v (((45461:Int):Rat)/((600:Int):Rat)) (2)),(fun _ v=>v= .pointer (some ⟨g5,3,none⟩)),(fun _ v=>v= .agg #[.bool bpy,.slice adpy npy cpy,.slice aepy mpy dpy]),(fun w v=>Rr w v ((((45461:Int):Rat)/((600:Int):Rat))-(qo)) ((2+2+1))),(fun w v=>Rr w v (((1:Int):Rat)/((360:Int):Rat)) (2)),(fun w v=>Rr w v (((((45461:Int):Rat)/((600:Int):Rat))-(qo))*(((1:Int):Rat)/((360:Int):Rat))) (((2+2+1)+2))),(fun w v=>∃g,v= .pointer (some ⟨g,0,none⟩)∧w7.heap.size≤g∧Own w g [.bool false,.slice none 0 0,.slice none 0 0])] [6] (by decide+kernel) (by decide+kernel) rfl rfl rfl ⟨(fun _ _ _ h hb=>h.below hb),(Mb.eq _),(Mb.eq _),(fun _ _ _ h hb=>h.below hb),(fun _ _ _ h hb=>h.below hb),(fun _ _ _ h hb=>h.below hb),(fun _ _ _ ⟨g,e,l,o⟩ hb=>⟨g,e,l,o.below hb⟩),trivial⟩ ⟨fun _ _ ⟨g,e,_,o⟩=>⟨g,e,o.lt⟩,trivial⟩ ⟨?_,?_,?_,?_,?_,?_,?_,trivial⟩ ?_
 ·intro a' w' hF' hb hd
  exact dc0 (r_call Tryz.func72 en72.1 en72.2 (map2 ev_c ev_c)) (dOf_any (45461) (600) _ (by decide) (by decide) (by decide) (by decide)) rfl rfl
 ·intro a' w' hF' hb hd
  exact dv0 (r_field (hF'.at 4 rfl) (fa_RPl_1 (p:=3) rfl)) rfl rfl rfl
 ·intro a' w' hF' hb hd
  have e17:=sHe hd 0 17 rfl rfl rfl rfl
  exact dv0 (r_load e17 (ld_RRat (vs:=[.bool bpy,.slice adpy npy cpy,.slice aepy mpy dpy]) ((st.b 2 rfl rfl).below hb) rfl rfl)) rfl rfl rfl
 ·intro a' w' hF' hb hd
  obtain⟨v16_0,e16,h16_1⟩:=sH hd 0 16 rfl rfl rfl rfl
  have e18:=sHe hd 1 18 rfl rfl rfl rfl
  exact dc0 (r_call Tryz.func70 en70.1 en70.2 (map2 e16 e18)) (dSub2_any _ _ _ (qo) 2 2 _ h16_1 (hpy.below (below_to st.bel hb)) (by omega) (by omega) (by omega) (by omega)) rfl rfl
 ·intro a' w' hF' hb hd
  exact dc0 (r_call Tryz.func72 en72.1 en72.2 (map2 ev_c ev_c)) (dOf_any (1) (360) _ (by decide) (by decide) (by decide) (by decide)) rfl rfl
 ·intro a' w' hF' hb hd
  obtain⟨v19_0,e19,h19_1⟩:=sH hd 0 19 rfl rfl rfl rfl
  obtain⟨v20_0,e20,h20_1⟩:=sH hd 1 20 rfl rfl rfl rfl
  exact dc0 (r_call Tryz.func71 en71.1 en71.2 (map2 e19 e20)) (dMul2_any _ _ _ _ (2+2+1) 2 _ h19_1 h20_1 (by omega) (by omega) (by omega) (by omega)) rfl rfl
 ·intro a' w' hF' hb hd
  exact da0 ty_RRat rfl hb.size rfl
 intro a w8 hF bb hall hne
 have s0:=st
 replace st:=st.to bb
 obtain⟨vv9,e21,hh10⟩:=sS hall 5 21 rfl rfl
 replace st:=st.add hh10 (Rr.cl _)
 clear hh10
 obtain⟨_,e10,g10,rfl,ge10,o10⟩:=sS hall 6 10 rfl rfl
 replace st:=st.push o10.blk (Nat.le_trans s0.bel.size ge10) (s0.ne ge10)
 clear o10
 clear hall hne bb s0
 obtain⟨b11,ad11,n11,c11,ae11,m11,d11,rfl⟩:=Rr.form (st.f 0 rfl)
 replace hF:=hF.add e21
 clear e21
 replace hF:=hF.add e10
 clear e10
 refine S.sto st hF 0 rfl (hF.at 0 rfl) (hF.at 1 rfl) ty_RRat rfl rfl rfl rfl fun w12 a st hF=>?_
 refine E.nil ?_
 refine wp_seq ?_
 refine E.drawn 9 mixed hF [22,23,24,25,26,27,28,29,11] [(fun _ v=>v= .agg #[.bool b6,.slice ad6 n6 c6,.slice ae6 m6 d6]),(fun w v=>Rr w v (motV (((n:Int):Rat))) ((2+2*2+130))),(fun _ v=>v= .agg #[.bool b6,.slice ad6 n6 c6,.slice ae6 m6 d6]),(fun w v=>Rr w v (risV (((n:Int):Rat))) (2)),(fun w v=>Rr w v ((motV (((n:Int):Rat)))*(risV (((n:Int):Rat)))) (((2+2*2+130)+2))),(fun _ v=>v= .int .i64 1),(fun w v=>Rr w v (((1:Int):Rat)/((4:Int):Rat)) (2)),(fun w v=>Rr w v (((motV (((n:Int):Rat)))*(risV (((n:Int):Rat))))*(((1:Int):Rat)/((4:Int):Rat))) ((((2+2*2+130)+2)+2))),(fun w v=>∃g,v= .pointer (some ⟨g,0,none⟩)∧w12.heap.size≤g∧Own w g [.bool false,.slice none 0 0,.slice none 0 0])] [8] (by decide+kernel) (by decide+kernel) rfl rfl rfl ⟨(Mb.eq _),(fun _ _ _ h hb=>h.below hb),(Mb.eq _),(fun _ _ _ h hb=>h.below hb),(fun _ _ _ h hb=>h.below hb),(Mb.eq _),(fun _ _ _ h hb=>h.below hb),(fun _ _ _ h hb=>h.below hb),(fun _ _ _ ⟨g,e,l,o⟩ hb=>⟨g,e,l,o.below hb⟩),trivial⟩ ⟨fun _ _ ⟨g,e,_,o⟩=>⟨g,e,o.lt⟩,trivial⟩ ⟨?_,?_,?_,?_,?_,?_,?_,?_,?_,trivial⟩ ?_
 ·intro a' w' hF' hb hd
  exact dv0 (r_load (hF'.at 2 rfl) (ld_all ty_RRat ((st.bk 1 rfl).below hb) rfl)) rfl rfl rfl
 ·intro a' w' hF' hb hd
  have e22:=sHe hd 0 22 rfl rfl rfl rfl
  exact dc0 (r_call Tryz.func19 en19.1 en19.2 (map1 e22)) (rMotion14_any _ _ 2 2 _ ((st.f 1 rfl).below hb) (lim64 (n:=n) (by omega) (by omega)) (by omega) (by omega) (by omega)) rfl rfl
 ·intro a' w' hF' hb hd
  exact dv0 (r_load (hF'.at 2 rfl) (ld_all ty_RRat ((st.bk 1 rfl).below hb) rfl)) rfl rfl rfl
 ·intro a' w' hF' hb hd
  have e24:=sHe hd 0 24 rfl rfl rfl rfl
  exact dc0 (r_call Tryz.func21 en21.1 en21.2 (map1 e24)) (rRising14_any _ _ 2 2 _ ((st.f 1 rfl).below hb) (lim64 (n:=n) (by omega) (by omega)) (by omega) (by omega) (by omega)) rfl rfl
 ·intro a' w' hF' hb hd
  obtain⟨v23_0,e23,h23_1⟩:=sH hd 0 23 rfl rfl rfl rfl
  obtain⟨v25_0,e25,h25_1⟩:=sH hd 1 25 rfl rfl rfl rfl
  exact dc0 (r_call Tryz.func71 en71.1 en71.2 (map2 e23 e25)) (dMul2_any _ _ _ _ (2+2*2+130) 2 _ h23_1 h25_1 (by omega) (by omega) (by omega) (by omega)) rfl rfl
 ·intro a' w' hF' hb hd
  exact dv0 (r_move (hF'.at 9 rfl)) rfl rfl rfl
 ·intro a' w' hF' hb hd
  have e27:=sHe hd 0 27 rfl rfl rfl rfl
  exact dc0 (r_call Tryz.func72 en72.1 en72.2 (map2 e27 ev_c)) (dOf_any (1) (4) _ (by decide) (by decide) (by decide) (by decide)) rfl rfl
 ·intro a' w' hF' hb hd
  obtain⟨v26_0,e26,h26_1⟩:=sH hd 0 26 rfl rfl rfl rfl
  obtain⟨v28_0,e28,h28_1⟩:=sH hd 1 28 rfl rfl rfl rfl
  exact dc0 (r_call Tryz.func71 en71.1 en71.2 (map2 e26 e28)) (dMul2_any _ _ _ _ ((2+2*2+130)+2) 2 _ h26_1 h28_1 (by omega) (by omega) (by omega) (by omega)) rfl rfl
 ·intro a' w' hF' hb hd
  exact da0 ty_RRat rfl hb.size rfl
 intro a w13 hF bb hall hne
 have s0:=st
 replace st:=st.to bb
 obtain⟨vv14,e29,hh15⟩:=sS hall 7 29 rfl rfl
 replace st:=st.add hh15 (Rr.cl _)
 clear hh15
 obtain⟨_,e11,g11,rfl,ge11,o11⟩:=sS hall 8 11 rfl rfl
 replace st:=st.push o11.blk (Nat.le_trans s0.bel.size ge11) (s0.ne ge11)
 clear o11
 clear hall hne bb s0
 obtain⟨b16,ad16,n16,c16,ae16,m16,d16,rfl⟩:=Rr.form (st.f 0 rfl)
 replace hF:=hF.add e29
 clear e29
 replace hF:=hF.add e11
 clear e11
 refine S.sto st hF 0 rfl (hF.at 0 rfl) (hF.at 1 rfl) ty_RRat rfl rfl rfl rfl fun w17 a st hF=>?_
 refine E.nil ?_
 refine wp_seq ?_
 refine E.drawn 10 mixed hF [30,31,32,33,34,35,36,37,38,12] [(fun _ v=>v= .agg #[.bool b16,.slice ad16 n16 c16,.slice ae16 m16 d16]),(fun _ v=>v= .int .i64 1),(fun w v=>Rr w v (((1:Int):Rat)) (2)),(fun _ v=>v= .agg #[.bool b6,.slice ad6 n6 c6,.slice ae6 m6 d6]),(fun _ v=>v= .pointer (some ⟨g5,0,none⟩)),(fun _ v=>v= .agg #[.bool bpx,.slice adpx npx cpx,.slice aepx mpx dpx]),(fun w v=>Rr w v (diffV (((n:Int):Rat)) (qa)) ((10*2+50*2+2500))),(fun w v=>Rr w v ((((1:Int):Rat))*(diffV (((n:Int):Rat)) (qa))) ((2+(10*2+50*2+2500)))),(fun w v=>Rr w v ((((motV (((n:Int):Rat)))*(risV (((n:Int):Rat))))*(((1:Int):Rat)/((4:Int):Rat)))+((((1:Int):Rat))*(diffV (((n:Int):Rat)) (qa)))) (((((2+2*2+130)+2)+2)+(2+(10*2+50*2+2500))+1))),(fun w v=>∃g,v= .pointer (some ⟨g,0,none⟩)∧w17.heap.size≤g∧Own w g [.bool false,.slice none 0 0,.slice none 0 0])] [9] (by decide+kernel) (by decide+kernel) rfl rfl rfl ⟨(Mb.eq _),(Mb.eq _),(fun _ _ _ h hb=>h.below hb),(Mb.eq _),(Mb.eq _),(Mb.eq _),(fun _ _ _ h hb=>h.below hb),(fun _ _ _ h hb=>h.below hb),(fun _ _ _ h hb=>h.below hb),(fun _ _ _ ⟨g,e,l,o⟩ hb=>⟨g,e,l,o.below hb⟩),trivial⟩ ⟨fun _ _ ⟨g,e,_,o⟩=>⟨g,e,o.lt⟩,trivial⟩ ⟨?_,?_,?_,?_,?_,?_,?_,?_,?_,?_,trivial⟩ ?_
 ·intro a' w' hF' hb hd
  exact dv0 (r_load (hF'.at 0 rfl) (ld_all ty_RRat ((st.bk 0 rfl).below hb) rfl)) rfl rfl rfl
 ·intro a' w' hF' hb hd
  exact dv0 (r_move (hF'.at 12 rfl)) rfl rfl rfl
 ·intro a' w' hF' hb hd
  have e31:=sHe hd 0 31 rfl rfl rfl rfl
  exact dc0 (r_call Tryz.func72 en72.1 en72.2 (map2 e31 ev_c)) (dOf1b_any (1) _ (by decide) (by decide)) rfl rfl
 ·intro a' w' hF' hb hd
  exact dv0 (r_load (hF'.at 4 rfl) (ld_all ty_RRat ((st.bk 2 rfl).below hb) rfl)) rfl rfl rfl
 ·intro a' w' hF' hb hd
  exact dv0 (r_field (hF'.at 8 rfl) (fa_RPl_0 (p:=0) rfl)) rfl rfl rfl
 ·intro a' w' hF' hb hd
  have e34:=sHe hd 0 34 rfl rfl rfl rfl
  exact dv0 (r_load e34 (ld_RRat (vs:=[.bool bpx,.slice adpx npx cpx,.slice aepx mpx dpx]) ((st.b 4 rfl rfl).below hb) rfl rfl)) rfl rfl rfl
 ·intro a' w' hF' hb hd
  have e33:=sHe hd 0 33 rfl rfl rfl rfl
  have e35:=sHe hd 1 35 rfl rfl rfl rfl
  exact dc0 (r_call Tryz.func25 en25.1 en25.2 (map2 e33 e35)) (rDifference14_any _ _ _ (qa) 2 2 _ ((st.f 2 rfl).below hb) (hpx.below (below_to st.bel hb)) (lim64 (n:=n) (by omega) (by omega)) la2 (by omega) (by omega) (by omega)) rfl rfl
 ·intro a' w' hF' hb hd
  obtain⟨v32_0,e32,h32_1⟩:=sH hd 0 32 rfl rfl rfl rfl
  obtain⟨v36_0,e36,h36_1⟩:=sH hd 1 36 rfl rfl rfl rfl
  exact dc0 (r_call Tryz.func71 en71.1 en71.2 (map2 e32 e36)) (dMul2_any _ _ _ _ 2 (10*2+50*2+2500) _ h32_1 h36_1 (by omega) (by omega) (by omega) (by omega)) rfl rfl
 ·intro a' w' hF' hb hd
  have e30:=sHe hd 0 30 rfl rfl rfl rfl
  obtain⟨v37_0,e37,h37_1⟩:=sH hd 1 37 rfl rfl rfl rfl
  exact dc0 (r_call Tryz.func90 en90.1 en90.2 (map2 e30 e37)) (dAdd2_any _ _ _ _ (((2+2*2+130)+2)+2) (2+(10*2+50*2+2500)) _ ((st.f 0 rfl).below hb) h37_1 (by omega) (by omega) (by omega) (by omega)) rfl rfl
 ·intro a' w' hF' hb hd
  exact da0 ty_RRat rfl hb.size rfl
 intro a w18 hF bb hall hne
 have s0:=st
 replace st:=st.to bb
 obtain⟨vv19,e38,hh20⟩:=sS hall 8 38 rfl rfl
 replace st:=st.add hh20 (Rr.cl _)
 clear hh20
 obtain⟨_,e12,g12,rfl,ge12,o12⟩:=sS hall 9 12 rfl rfl
 replace st:=st.push o12.blk (Nat.le_trans s0.bel.size ge12) (s0.ne ge12)
 clear o12
 clear hall hne bb s0
 obtain⟨b21,ad21,n21,c21,ae21,m21,d21,rfl⟩:=Rr.form (st.f 0 rfl)
 replace hF:=hF.add e38
 clear e38
 replace hF:=hF.add e12
 clear e12
 refine S.sto st hF 0 rfl (hF.at 0 rfl) (hF.at 1 rfl) ty_RRat rfl rfl rfl rfl fun w22 a st hF=>?_
 refine E.nil ?_
 refine wp_seq ?_
 refine E.drawn 10 mixed hF [39,40,41,42,43,44,45,46,47,13] [(fun _ v=>v= .agg #[.bool b6,.slice ad6 n6 c6,.slice ae6 m6 d6]),(fun _ v=>v= .int .i64 1),(fun w v=>Rr w v (((1:Int):Rat)/((4:Int):Rat)) (2)),(fun w v=>Rr w v ((((n:Int):Rat))+(((1:Int):Rat)/((4:Int):Rat))) ((2+2+1))),(fun _ v=>v= .agg #[.bool b11,.slice ad11 n11 c11,.slice ae11 m11 d11]),(fun _ v=>v= .agg #[.bool b6,.slice ad6 n6 c6,.slice ae6 m6 d6]),(fun w v=>Rr w v (eqnV (((n:Int):Rat))) ((3*2+6*2+350))),(fun w v=>Rr w v ((((((45461:Int):Rat)/((600:Int):Rat))-(qo))*(((1:Int):Rat)/((360:Int):Rat)))-(eqnV (((n:Int):Rat)))) ((((2+2+1)+2)+(3*2+6*2+350)+1))),(fun w v=>Rr w v (((((n:Int):Rat))+(((1:Int):Rat)/((4:Int):Rat)))+((((((45461:Int):Rat)/((600:Int):Rat))-(qo))*(((1:Int):Rat)/((360:Int):Rat)))-(eqnV (((n:Int):Rat))))) (((2+2+1)+(((2+2+1)+2)+(3*2+6*2+350)+1)+1))),(fun w v=>∃g,v= .pointer (some ⟨g,0,none⟩)∧w22.heap.size≤g∧Own w g [.bool false,.slice none 0 0,.slice none 0 0])] [9] (by decide+kernel) (by decide+kernel) rfl rfl rfl ⟨(Mb.eq _),(Mb.eq _),(fun _ _ _ h hb=>h.below hb),(fun _ _ _ h hb=>h.below hb),(Mb.eq _),(Mb.eq _),(fun _ _ _ h hb=>h.below hb),(fun _ _ _ h hb=>h.below hb),(fun _ _ _ h hb=>h.below hb),(fun _ _ _ ⟨g,e,l,o⟩ hb=>⟨g,e,l,o.below hb⟩),trivial⟩ ⟨fun _ _ ⟨g,e,_,o⟩=>⟨g,e,o.lt⟩,trivial⟩ ⟨?_,?_,?_,?_,?_,?_,?_,?_,?_,?_,trivial⟩ ?_
 ·intro a' w' hF' hb hd
  exact dv0 (r_load (hF'.at 6 rfl) (ld_all ty_RRat ((st.bk 3 rfl).below hb) rfl)) rfl rfl rfl
 ·intro a' w' hF' hb hd
  exact dv0 (r_move (hF'.at 13 rfl)) rfl rfl rfl
 ·intro a' w' hF' hb hd
  have e40:=sHe hd 0 40 rfl rfl rfl rfl
  exact dc0 (r_call Tryz.func72 en72.1 en72.2 (map2 e40 ev_c)) (dOf_any (1) (4) _ (by decide) (by decide) (by decide) (by decide)) rfl rfl
 ·intro a' w' hF' hb hd
  have e39:=sHe hd 0 39 rfl rfl rfl rfl
  obtain⟨v41_0,e41,h41_1⟩:=sH hd 1 41 rfl rfl rfl rfl
  exact dc0 (r_call Tryz.func90 en90.1 en90.2 (map2 e39 e41)) (dAdd2_any _ _ _ _ 2 2 _ ((st.f 3 rfl).below hb) h41_1 (by omega) (by omega) (by omega) (by omega)) rfl rfl
 ·intro a' w' hF' hb hd
  exact dv0 (r_load (hF'.at 4 rfl) (ld_all ty_RRat ((st.bk 2 rfl).below hb) rfl)) rfl rfl rfl
 ·intro a' w' hF' hb hd
  exact dv0 (r_load (hF'.at 6 rfl) (ld_all ty_RRat ((st.bk 3 rfl).below hb) rfl)) rfl rfl rfl
 ·intro a' w' hF' hb hd
  have e44:=sHe hd 0 44 rfl rfl rfl rfl
  exact dc0 (r_call Tryz.func23 en23.1 en23.2 (map1 e44)) (rEquation14_any _ _ 2 2 _ ((st.f 3 rfl).below hb) (lim64 (n:=n) (by omega) (by omega)) (by omega) (by omega) (by omega)) rfl rfl
 ·intro a' w' hF' hb hd
  have e43:=sHe hd 0 43 rfl rfl rfl rfl
  obtain⟨v45_0,e45,h45_1⟩:=sH hd 1 45 rfl rfl rfl rfl
  exact dc0 (r_call Tryz.func70 en70.1 en70.2 (map2 e43 e45)) (dSub2_any _ _ _ _ ((2+2+1)+2) (3*2+6*2+350) _ ((st.f 2 rfl).below hb) h45_1 (by omega) (by omega) (by omega) (by omega)) rfl rfl
 ·intro a' w' hF' hb hd
  obtain⟨v42_0,e42,h42_1⟩:=sH hd 0 42 rfl rfl rfl rfl
  obtain⟨v46_0,e46,h46_1⟩:=sH hd 1 46 rfl rfl rfl rfl
  exact dc0 (r_call Tryz.func90 en90.1 en90.2 (map2 e42 e46)) (dAdd2_any _ _ _ _ (2+2+1) (((2+2+1)+2)+(3*2+6*2+350)+1) _ h42_1 h46_1 (by omega) (by omega) (by omega) (by omega)) rfl rfl
 ·intro a' w' hF' hb hd
  exact da0 ty_RRat rfl hb.size rfl
 intro a w23 hF bb hall hne
 have s0:=st
 replace st:=st.to bb
 obtain⟨vv24,e47,hh25⟩:=sS hall 8 47 rfl rfl
 replace st:=st.add hh25 (Rr.cl _)
 clear hh25
 obtain⟨_,e13,g13,rfl,ge13,o13⟩:=sS hall 9 13 rfl rfl
 replace st:=st.push o13.blk (Nat.le_trans s0.bel.size ge13) (s0.ne ge13)
 clear o13
 clear hall hne bb s0
 obtain⟨b26,ad26,n26,c26,ae26,m26,d26,rfl⟩:=Rr.form (st.f 0 rfl)
 replace hF:=hF.add e47
 clear e47
 replace hF:=hF.add e13
 clear e13
 refine S.sto st hF 0 rfl (hF.at 0 rfl) (hF.at 1 rfl) ty_RRat rfl rfl rfl rfl fun w27 a st hF=>?_
 refine E.nil ?_
 refine wp_seq ?_
 refine E.drawn 7 mixed hF [48,49,50,51,52,53,54] [(fun _ v=>v= .agg #[.bool b26,.slice ad26 n26 c26,.slice ae26 m26 d26]),(fun _ v=>v= .agg #[.bool b21,.slice ad21 n21 c21,.slice ae21 m21 d21]),(fun w v=>Rr w v (((1577917828:Int):Rat)/((1582237828:Int):Rat)) (2)),(fun w v=>Rr w v (((1:Int):Rat)/((360:Int):Rat)) (2)),(fun w v=>Rr w v ((((1577917828:Int):Rat)/((1582237828:Int):Rat))*(((1:Int):Rat)/((360:Int):Rat))) ((2+2))),(fun w v=>Rr w v (((((motV (((n:Int):Rat)))*(risV (((n:Int):Rat))))*(((1:Int):Rat)/((4:Int):Rat)))+((((1:Int):Rat))*(diffV (((n:Int):Rat)) (qa))))*((((1577917828:Int):Rat)/((1582237828:Int):Rat))*(((1:Int):Rat)/((360:Int):Rat)))) ((((((2+2*2+130)+2)+2)+(2+(10*2+50*2+2500))+1)+(2+2)))),(fun w v=>Rr w v ((((((n:Int):Rat))+(((1:Int):Rat)/((4:Int):Rat)))+((((((45461:Int):Rat)/((600:Int):Rat))-(qo))*(((1:Int):Rat)/((360:Int):Rat)))-(eqnV (((n:Int):Rat)))))+(((((motV (((n:Int):Rat)))*(risV (((n:Int):Rat))))*(((1:Int):Rat)/((4:Int):Rat)))+((((1:Int):Rat))*(diffV (((n:Int):Rat)) (qa))))*((((1577917828:Int):Rat)/((1582237828:Int):Rat))*(((1:Int):Rat)/((360:Int):Rat))))) ((((2+2+1)+(((2+2+1)+2)+(3*2+6*2+350)+1)+1)+(((((2+2*2+130)+2)+2)+(2+(10*2+50*2+2500))+1)+(2+2))+1)))] [] (by decide+kernel) (by decide+kernel) rfl rfl rfl ⟨(Mb.eq _),(Mb.eq _),(fun _ _ _ h hb=>h.below hb),(fun _ _ _ h hb=>h.below hb),(fun _ _ _ h hb=>h.below hb),(fun _ _ _ h hb=>h.below hb),(fun _ _ _ h hb=>h.below hb),trivial⟩ trivial ⟨?_,?_,?_,?_,?_,?_,?_,trivial⟩ ?_
 ·intro a' w' hF' hb hd
  exact dv0 (r_load (hF'.at 0 rfl) (ld_all ty_RRat ((st.bk 0 rfl).below hb) rfl)) rfl rfl rfl
 ·intro a' w' hF' hb hd
  exact dv0 (r_load (hF'.at 2 rfl) (ld_all ty_RRat ((st.bk 1 rfl).below hb) rfl)) rfl rfl rfl
 ·intro a' w' hF' hb hd
  exact dc0 (r_call Tryz.func72 en72.1 en72.2 (map2 ev_c ev_c)) (dOf_any (1577917828) (1582237828) _ (by decide) (by decide) (by decide) (by decide)) rfl rfl
 ·intro a' w' hF' hb hd
  exact dc0 (r_call Tryz.func72 en72.1 en72.2 (map2 ev_c ev_c)) (dOf_any (1) (360) _ (by decide) (by decide) (by decide) (by decide)) rfl rfl
 ·intro a' w' hF' hb hd
  obtain⟨v50_0,e50,h50_1⟩:=sH hd 0 50 rfl rfl rfl rfl
  obtain⟨v51_0,e51,h51_1⟩:=sH hd 1 51 rfl rfl rfl rfl
  exact dc0 (r_call Tryz.func71 en71.1 en71.2 (map2 e50 e51)) (dMul2_any _ _ _ _ 2 2 _ h50_1 h51_1 (by omega) (by omega) (by omega) (by omega)) rfl rfl
 ·intro a' w' hF' hb hd
  have e49:=sHe hd 0 49 rfl rfl rfl rfl
  obtain⟨v52_0,e52,h52_1⟩:=sH hd 1 52 rfl rfl rfl rfl
  exact dc0 (r_call Tryz.func71 en71.1 en71.2 (map2 e49 e52)) (dMul2_any _ _ _ _ ((((2+2*2+130)+2)+2)+(2+(10*2+50*2+2500))+1) (2+2) _ ((st.f 1 rfl).below hb) h52_1 (by omega) (by omega) (by omega) (by omega)) rfl rfl
 ·intro a' w' hF' hb hd
  have e48:=sHe hd 0 48 rfl rfl rfl rfl
  obtain⟨v53_0,e53,h53_1⟩:=sH hd 1 53 rfl rfl rfl rfl
  exact dc0 (r_call Tryz.func90 en90.1 en90.2 (map2 e48 e53)) (dAdd2_any _ _ _ _ ((2+2+1)+(((2+2+1)+2)+(3*2+6*2+350)+1)+1) (((((2+2*2+130)+2)+2)+(2+(10*2+50*2+2500))+1)+(2+2)) _ ((st.f 0 rfl).below hb) h53_1 (by omega) (by omega) (by omega) (by omega)) rfl rfl
 intro a w28 hF bb hall hne
 replace st:=st.to bb
 obtain⟨vv29,e54,hh30⟩:=sS hall 6 54 rfl rfl
 replace st:=st.add hh30 (Rr.cl _)
 clear hh30
 clear hall hne bb
 obtain⟨b31,ad31,n31,c31,ae31,m31,d31,rfl⟩:=Rr.form (st.f 0 rfl)
 replace hF:=hF.add e54
 clear e54
 refine S.sto st hF 5 rfl (hF.at 12 rfl) (hF.at 0 rfl) ty_RRat rfl rfl rfl rfl fun w32 a st hF=>?_
 refine E.nil ?_
 refine wp_ret ?_
 refine S.ret Tryz.results98 st hF (hF.at 12 rfl) 5 rfl ty_RRat rfl hF.dfr ?_
 have bel:=st.bel
 exact⟨_,rfl,Rr.cast (Rr.up (st.f 0 rfl) _ (by omega)) rfl,bel⟩
theorem rboth314_any (n:Int) (v1:Value) (qa qo:Rat) (w:World) (ho:RPl w v1 qa qo 2) (la2:RLim qa 2) (lo2:RLim qo 2) (hn0: -4000000≤n) (hn1:n≤4000000):
 Calls Tryz.prog 98 #[.int .i64 n,v1,.int .i64 3,.int .i64 (-1)] w (RrPost w (bothV ((n:Int):Rat) qa qo 3 (-1)) 3300):=by
 obtain⟨bpx,adpx,npx,cpx,aepx,mpx,dpx,bpy,adpy,npy,cpy,aepy,mpy,dpy,rfl,hpx,hpy⟩:=RPl.shape ho
 have ho:RPl w (.agg #[.bool bpx,.slice adpx npx cpx,.slice aepx mpx dpx,.bool bpy,.slice adpy npy cpy,.slice aepy mpy dpy]) qa qo 2:=⟨_,_,_,_,_,_,_,_,_,_,_,_,_,_,rfl,hpx,hpy⟩
 have st:=St.start w
 refine E.enter (nt:=55) (L:=[(0,.int .i64 n),(1,.agg #[.bool bpx,.slice adpx npx cpx,.slice aepx mpx dpx,.bool bpy,.slice adpy npy cpy,.slice aepy mpy dpy]),(2,.int .i64 3),(3,.int .i64 (-1))]) Tryz.func98 rfl rfl rfl (args_cons (i:=0) rfl (args_cons (i:=1) rfl (args_cons (i:=2) rfl (args_cons (i:=3) rfl args_nil)))) ?_
 intro a hF
 refine wp_seq ?_
 refine E.seq ?_
 refine S.box st hF (hF.at 1 rfl) rfl rfl fun g5 w1 a st hF=>?_
 refine S.alloc st hF ty_RRat rfl rfl fun g8 w2 a st hF=>?_
 refine E.nil ?_
 refine wp_seq ?_
 refine E.seq ?_
 refine E.opv hF (r_move (hF.at 2 rfl)) rfl rfl rfl rfl fun a hF=>?_
 refine S.call st hF (r_call Tryz.func72 en72.1 en72.2 (map2 (hF.at 0 rfl) ev_c)) (dOf1b_any (n) _ (by omega) (by omega)) (fun _ _ h=>h) Rr.cl rfl rfl rfl rfl fun vv4 w3 a st hF=>?_
 obtain⟨b6,ad6,n6,c6,ae6,m6,d6,rfl⟩:=Rr.form (st.f 0 rfl)
 refine S.new st hF 0 rfl ty_RRat rfl rfl rfl rfl rfl fun g9 w7 a st hF=>?_
 refine E.nil ?_
 refine wp_seq ?_
 refine E.drawn 7 mixed hF [16,17,18,19,20,21,10] [(fun w v=>Rr w v (((45461:Int):Rat)/((600:Int):Rat)) (2)),(fun _ v=>v= .pointer (some ⟨g5,3,none⟩)),(fun _ v=>v= .agg #[.bool bpy,.slice adpy npy cpy,.slice aepy mpy dpy]),(fun w v=>Rr w v ((((45461:Int):Rat)/((600:Int):Rat))-(qo)) ((2+2+1))),(fun w v=>Rr w v (((1:Int):Rat)/((360:Int):Rat)) (2)),(fun w v=>Rr w v (((((45461:Int):Rat)/((600:Int):Rat))-(qo))*(((1:Int):Rat)/((360:Int):Rat))) (((2+2+1)+2))),(fun w v=>∃g,v= .pointer (some ⟨g,0,none⟩)∧w7.heap.size≤g∧Own w g [.bool false,.slice none 0 0,.slice none 0 0])] [6] (by decide+kernel) (by decide+kernel) rfl rfl rfl ⟨(fun _ _ _ h hb=>h.below hb),(Mb.eq _),(Mb.eq _),(fun _ _ _ h hb=>h.below hb),(fun _ _ _ h hb=>h.below hb),(fun _ _ _ h hb=>h.below hb),(fun _ _ _ ⟨g,e,l,o⟩ hb=>⟨g,e,l,o.below hb⟩),trivial⟩ ⟨fun _ _ ⟨g,e,_,o⟩=>⟨g,e,o.lt⟩,trivial⟩ ⟨?_,?_,?_,?_,?_,?_,?_,trivial⟩ ?_
 ·intro a' w' hF' hb hd
  exact dc0 (r_call Tryz.func72 en72.1 en72.2 (map2 ev_c ev_c)) (dOf_any (45461) (600) _ (by decide) (by decide) (by decide) (by decide)) rfl rfl
 ·intro a' w' hF' hb hd
  exact dv0 (r_field (hF'.at 4 rfl) (fa_RPl_1 (p:=3) rfl)) rfl rfl rfl
 ·intro a' w' hF' hb hd
  have e17:=sHe hd 0 17 rfl rfl rfl rfl
  exact dv0 (r_load e17 (ld_RRat (vs:=[.bool bpy,.slice adpy npy cpy,.slice aepy mpy dpy]) ((st.b 2 rfl rfl).below hb) rfl rfl)) rfl rfl rfl
 ·intro a' w' hF' hb hd
  obtain⟨v16_0,e16,h16_1⟩:=sH hd 0 16 rfl rfl rfl rfl
  have e18:=sHe hd 1 18 rfl rfl rfl rfl
  exact dc0 (r_call Tryz.func70 en70.1 en70.2 (map2 e16 e18)) (dSub2_any _ _ _ (qo) 2 2 _ h16_1 (hpy.below (below_to st.bel hb)) (by omega) (by omega) (by omega) (by omega)) rfl rfl
 ·intro a' w' hF' hb hd
  exact dc0 (r_call Tryz.func72 en72.1 en72.2 (map2 ev_c ev_c)) (dOf_any (1) (360) _ (by decide) (by decide) (by decide) (by decide)) rfl rfl
 ·intro a' w' hF' hb hd
  obtain⟨v19_0,e19,h19_1⟩:=sH hd 0 19 rfl rfl rfl rfl
  obtain⟨v20_0,e20,h20_1⟩:=sH hd 1 20 rfl rfl rfl rfl
  exact dc0 (r_call Tryz.func71 en71.1 en71.2 (map2 e19 e20)) (dMul2_any _ _ _ _ (2+2+1) 2 _ h19_1 h20_1 (by omega) (by omega) (by omega) (by omega)) rfl rfl
 ·intro a' w' hF' hb hd
  exact da0 ty_RRat rfl hb.size rfl
 intro a w8 hF bb hall hne
 have s0:=st
 replace st:=st.to bb
 obtain⟨vv9,e21,hh10⟩:=sS hall 5 21 rfl rfl
 replace st:=st.add hh10 (Rr.cl _)
 clear hh10
 obtain⟨_,e10,g10,rfl,ge10,o10⟩:=sS hall 6 10 rfl rfl
 replace st:=st.push o10.blk (Nat.le_trans s0.bel.size ge10) (s0.ne ge10)
 clear o10
 clear hall hne bb s0
 obtain⟨b11,ad11,n11,c11,ae11,m11,d11,rfl⟩:=Rr.form (st.f 0 rfl)
 replace hF:=hF.add e21
 clear e21
 replace hF:=hF.add e10
 clear e10
 refine S.sto st hF 0 rfl (hF.at 0 rfl) (hF.at 1 rfl) ty_RRat rfl rfl rfl rfl fun w12 a st hF=>?_
 refine E.nil ?_
 refine wp_seq ?_
 refine E.drawn 9 mixed hF [22,23,24,25,26,27,28,29,11] [(fun _ v=>v= .agg #[.bool b6,.slice ad6 n6 c6,.slice ae6 m6 d6]),(fun w v=>Rr w v (motV (((n:Int):Rat))) ((2+2*2+130))),(fun _ v=>v= .agg #[.bool b6,.slice ad6 n6 c6,.slice ae6 m6 d6]),(fun w v=>Rr w v (risV (((n:Int):Rat))) (2)),(fun w v=>Rr w v ((motV (((n:Int):Rat)))*(risV (((n:Int):Rat)))) (((2+2*2+130)+2))),(fun _ v=>v= .int .i64 3),(fun w v=>Rr w v (((3:Int):Rat)/((4:Int):Rat)) (2)),(fun w v=>Rr w v (((motV (((n:Int):Rat)))*(risV (((n:Int):Rat))))*(((3:Int):Rat)/((4:Int):Rat))) ((((2+2*2+130)+2)+2))),(fun w v=>∃g,v= .pointer (some ⟨g,0,none⟩)∧w12.heap.size≤g∧Own w g [.bool false,.slice none 0 0,.slice none 0 0])] [8] (by decide+kernel) (by decide+kernel) rfl rfl rfl ⟨(Mb.eq _),(fun _ _ _ h hb=>h.below hb),(Mb.eq _),(fun _ _ _ h hb=>h.below hb),(fun _ _ _ h hb=>h.below hb),(Mb.eq _),(fun _ _ _ h hb=>h.below hb),(fun _ _ _ h hb=>h.below hb),(fun _ _ _ ⟨g,e,l,o⟩ hb=>⟨g,e,l,o.below hb⟩),trivial⟩ ⟨fun _ _ ⟨g,e,_,o⟩=>⟨g,e,o.lt⟩,trivial⟩ ⟨?_,?_,?_,?_,?_,?_,?_,?_,?_,trivial⟩ ?_
 ·intro a' w' hF' hb hd
  exact dv0 (r_load (hF'.at 2 rfl) (ld_all ty_RRat ((st.bk 1 rfl).below hb) rfl)) rfl rfl rfl
 ·intro a' w' hF' hb hd
  have e22:=sHe hd 0 22 rfl rfl rfl rfl
  exact dc0 (r_call Tryz.func19 en19.1 en19.2 (map1 e22)) (rMotion14_any _ _ 2 2 _ ((st.f 1 rfl).below hb) (lim64 (n:=n) (by omega) (by omega)) (by omega) (by omega) (by omega)) rfl rfl
 ·intro a' w' hF' hb hd
  exact dv0 (r_load (hF'.at 2 rfl) (ld_all ty_RRat ((st.bk 1 rfl).below hb) rfl)) rfl rfl rfl
 ·intro a' w' hF' hb hd
  have e24:=sHe hd 0 24 rfl rfl rfl rfl
  exact dc0 (r_call Tryz.func21 en21.1 en21.2 (map1 e24)) (rRising14_any _ _ 2 2 _ ((st.f 1 rfl).below hb) (lim64 (n:=n) (by omega) (by omega)) (by omega) (by omega) (by omega)) rfl rfl
 ·intro a' w' hF' hb hd
  obtain⟨v23_0,e23,h23_1⟩:=sH hd 0 23 rfl rfl rfl rfl
  obtain⟨v25_0,e25,h25_1⟩:=sH hd 1 25 rfl rfl rfl rfl
  exact dc0 (r_call Tryz.func71 en71.1 en71.2 (map2 e23 e25)) (dMul2_any _ _ _ _ (2+2*2+130) 2 _ h23_1 h25_1 (by omega) (by omega) (by omega) (by omega)) rfl rfl
 ·intro a' w' hF' hb hd
  exact dv0 (r_move (hF'.at 9 rfl)) rfl rfl rfl
 ·intro a' w' hF' hb hd
  have e27:=sHe hd 0 27 rfl rfl rfl rfl
  exact dc0 (r_call Tryz.func72 en72.1 en72.2 (map2 e27 ev_c)) (dOf_any (3) (4) _ (by decide) (by decide) (by decide) (by decide)) rfl rfl
 ·intro a' w' hF' hb hd
  obtain⟨v26_0,e26,h26_1⟩:=sH hd 0 26 rfl rfl rfl rfl
  obtain⟨v28_0,e28,h28_1⟩:=sH hd 1 28 rfl rfl rfl rfl
  exact dc0 (r_call Tryz.func71 en71.1 en71.2 (map2 e26 e28)) (dMul2_any _ _ _ _ ((2+2*2+130)+2) 2 _ h26_1 h28_1 (by omega) (by omega) (by omega) (by omega)) rfl rfl
 ·intro a' w' hF' hb hd
  exact da0 ty_RRat rfl hb.size rfl
 intro a w13 hF bb hall hne
 have s0:=st
 replace st:=st.to bb
 obtain⟨vv14,e29,hh15⟩:=sS hall 7 29 rfl rfl
 replace st:=st.add hh15 (Rr.cl _)
 clear hh15
 obtain⟨_,e11,g11,rfl,ge11,o11⟩:=sS hall 8 11 rfl rfl
 replace st:=st.push o11.blk (Nat.le_trans s0.bel.size ge11) (s0.ne ge11)
 clear o11
 clear hall hne bb s0
 obtain⟨b16,ad16,n16,c16,ae16,m16,d16,rfl⟩:=Rr.form (st.f 0 rfl)
 replace hF:=hF.add e29
 clear e29
 replace hF:=hF.add e11
 clear e11
 refine S.sto st hF 0 rfl (hF.at 0 rfl) (hF.at 1 rfl) ty_RRat rfl rfl rfl rfl fun w17 a st hF=>?_
 refine E.nil ?_
 refine wp_seq ?_
 refine E.drawn 10 mixed hF [30,31,32,33,34,35,36,37,38,12] [(fun _ v=>v= .agg #[.bool b16,.slice ad16 n16 c16,.slice ae16 m16 d16]),(fun _ v=>v= .int .i64 (-1)),(fun w v=>Rr w v (((-1:Int):Rat)) (2)),(fun _ v=>v= .agg #[.bool b6,.slice ad6 n6 c6,.slice ae6 m6 d6]),(fun _ v=>v= .pointer (some ⟨g5,0,none⟩)),(fun _ v=>v= .agg #[.bool bpx,.slice adpx npx cpx,.slice aepx mpx dpx]),(fun w v=>Rr w v (diffV (((n:Int):Rat)) (qa)) ((10*2+50*2+2500))),(fun w v=>Rr w v ((((-1:Int):Rat))*(diffV (((n:Int):Rat)) (qa))) ((2+(10*2+50*2+2500)))),(fun w v=>Rr w v ((((motV (((n:Int):Rat)))*(risV (((n:Int):Rat))))*(((3:Int):Rat)/((4:Int):Rat)))+((((-1:Int):Rat))*(diffV (((n:Int):Rat)) (qa)))) (((((2+2*2+130)+2)+2)+(2+(10*2+50*2+2500))+1))),(fun w v=>∃g,v= .pointer (some ⟨g,0,none⟩)∧w17.heap.size≤g∧Own w g [.bool false,.slice none 0 0,.slice none 0 0])] [9] (by decide+kernel) (by decide+kernel) rfl rfl rfl ⟨(Mb.eq _),(Mb.eq _),(fun _ _ _ h hb=>h.below hb),(Mb.eq _),(Mb.eq _),(Mb.eq _),(fun _ _ _ h hb=>h.below hb),(fun _ _ _ h hb=>h.below hb),(fun _ _ _ h hb=>h.below hb),(fun _ _ _ ⟨g,e,l,o⟩ hb=>⟨g,e,l,o.below hb⟩),trivial⟩ ⟨fun _ _ ⟨g,e,_,o⟩=>⟨g,e,o.lt⟩,trivial⟩ ⟨?_,?_,?_,?_,?_,?_,?_,?_,?_,?_,trivial⟩ ?_
 ·intro a' w' hF' hb hd
  exact dv0 (r_load (hF'.at 0 rfl) (ld_all ty_RRat ((st.bk 0 rfl).below hb) rfl)) rfl rfl rfl
 ·intro a' w' hF' hb hd
  exact dv0 (r_move (hF'.at 12 rfl)) rfl rfl rfl
 ·intro a' w' hF' hb hd
  have e31:=sHe hd 0 31 rfl rfl rfl rfl
  exact dc0 (r_call Tryz.func72 en72.1 en72.2 (map2 e31 ev_c)) (dOf1b_any (-1) _ (by decide) (by decide)) rfl rfl
 ·intro a' w' hF' hb hd
  exact dv0 (r_load (hF'.at 4 rfl) (ld_all ty_RRat ((st.bk 2 rfl).below hb) rfl)) rfl rfl rfl
 ·intro a' w' hF' hb hd
  exact dv0 (r_field (hF'.at 8 rfl) (fa_RPl_0 (p:=0) rfl)) rfl rfl rfl
 ·intro a' w' hF' hb hd
  have e34:=sHe hd 0 34 rfl rfl rfl rfl
  exact dv0 (r_load e34 (ld_RRat (vs:=[.bool bpx,.slice adpx npx cpx,.slice aepx mpx dpx]) ((st.b 4 rfl rfl).below hb) rfl rfl)) rfl rfl rfl
 ·intro a' w' hF' hb hd
  have e33:=sHe hd 0 33 rfl rfl rfl rfl
  have e35:=sHe hd 1 35 rfl rfl rfl rfl
  exact dc0 (r_call Tryz.func25 en25.1 en25.2 (map2 e33 e35)) (rDifference14_any _ _ _ (qa) 2 2 _ ((st.f 2 rfl).below hb) (hpx.below (below_to st.bel hb)) (lim64 (n:=n) (by omega) (by omega)) la2 (by omega) (by omega) (by omega)) rfl rfl
 ·intro a' w' hF' hb hd
  obtain⟨v32_0,e32,h32_1⟩:=sH hd 0 32 rfl rfl rfl rfl
  obtain⟨v36_0,e36,h36_1⟩:=sH hd 1 36 rfl rfl rfl rfl
  exact dc0 (r_call Tryz.func71 en71.1 en71.2 (map2 e32 e36)) (dMul2_any _ _ _ _ 2 (10*2+50*2+2500) _ h32_1 h36_1 (by omega) (by omega) (by omega) (by omega)) rfl rfl
 ·intro a' w' hF' hb hd
  have e30:=sHe hd 0 30 rfl rfl rfl rfl
  obtain⟨v37_0,e37,h37_1⟩:=sH hd 1 37 rfl rfl rfl rfl
  exact dc0 (r_call Tryz.func90 en90.1 en90.2 (map2 e30 e37)) (dAdd2_any _ _ _ _ (((2+2*2+130)+2)+2) (2+(10*2+50*2+2500)) _ ((st.f 0 rfl).below hb) h37_1 (by omega) (by omega) (by omega) (by omega)) rfl rfl
 ·intro a' w' hF' hb hd
  exact da0 ty_RRat rfl hb.size rfl
 intro a w18 hF bb hall hne
 have s0:=st
 replace st:=st.to bb
 obtain⟨vv19,e38,hh20⟩:=sS hall 8 38 rfl rfl
 replace st:=st.add hh20 (Rr.cl _)
 clear hh20
 obtain⟨_,e12,g12,rfl,ge12,o12⟩:=sS hall 9 12 rfl rfl
 replace st:=st.push o12.blk (Nat.le_trans s0.bel.size ge12) (s0.ne ge12)
 clear o12
 clear hall hne bb s0
 obtain⟨b21,ad21,n21,c21,ae21,m21,d21,rfl⟩:=Rr.form (st.f 0 rfl)
 replace hF:=hF.add e38
 clear e38
 replace hF:=hF.add e12
 clear e12
 refine S.sto st hF 0 rfl (hF.at 0 rfl) (hF.at 1 rfl) ty_RRat rfl rfl rfl rfl fun w22 a st hF=>?_
 refine E.nil ?_
 refine wp_seq ?_
 refine E.drawn 10 mixed hF [39,40,41,42,43,44,45,46,47,13] [(fun _ v=>v= .agg #[.bool b6,.slice ad6 n6 c6,.slice ae6 m6 d6]),(fun _ v=>v= .int .i64 3),(fun w v=>Rr w v (((3:Int):Rat)/((4:Int):Rat)) (2)),(fun w v=>Rr w v ((((n:Int):Rat))+(((3:Int):Rat)/((4:Int):Rat))) ((2+2+1))),(fun _ v=>v= .agg #[.bool b11,.slice ad11 n11 c11,.slice ae11 m11 d11]),(fun _ v=>v= .agg #[.bool b6,.slice ad6 n6 c6,.slice ae6 m6 d6]),(fun w v=>Rr w v (eqnV (((n:Int):Rat))) ((3*2+6*2+350))),(fun w v=>Rr w v ((((((45461:Int):Rat)/((600:Int):Rat))-(qo))*(((1:Int):Rat)/((360:Int):Rat)))-(eqnV (((n:Int):Rat)))) ((((2+2+1)+2)+(3*2+6*2+350)+1))),(fun w v=>Rr w v (((((n:Int):Rat))+(((3:Int):Rat)/((4:Int):Rat)))+((((((45461:Int):Rat)/((600:Int):Rat))-(qo))*(((1:Int):Rat)/((360:Int):Rat)))-(eqnV (((n:Int):Rat))))) (((2+2+1)+(((2+2+1)+2)+(3*2+6*2+350)+1)+1))),(fun w v=>∃g,v= .pointer (some ⟨g,0,none⟩)∧w22.heap.size≤g∧Own w g [.bool false,.slice none 0 0,.slice none 0 0])] [9] (by decide+kernel) (by decide+kernel) rfl rfl rfl ⟨(Mb.eq _),(Mb.eq _),(fun _ _ _ h hb=>h.below hb),(fun _ _ _ h hb=>h.below hb),(Mb.eq _),(Mb.eq _),(fun _ _ _ h hb=>h.below hb),(fun _ _ _ h hb=>h.below hb),(fun _ _ _ h hb=>h.below hb),(fun _ _ _ ⟨g,e,l,o⟩ hb=>⟨g,e,l,o.below hb⟩),trivial⟩ ⟨fun _ _ ⟨g,e,_,o⟩=>⟨g,e,o.lt⟩,trivial⟩ ⟨?_,?_,?_,?_,?_,?_,?_,?_,?_,?_,trivial⟩ ?_
 ·intro a' w' hF' hb hd
  exact dv0 (r_load (hF'.at 6 rfl) (ld_all ty_RRat ((st.bk 3 rfl).below hb) rfl)) rfl rfl rfl
 ·intro a' w' hF' hb hd
  exact dv0 (r_move (hF'.at 13 rfl)) rfl rfl rfl
 ·intro a' w' hF' hb hd
  have e40:=sHe hd 0 40 rfl rfl rfl rfl
  exact dc0 (r_call Tryz.func72 en72.1 en72.2 (map2 e40 ev_c)) (dOf_any (3) (4) _ (by decide) (by decide) (by decide) (by decide)) rfl rfl
 ·intro a' w' hF' hb hd
  have e39:=sHe hd 0 39 rfl rfl rfl rfl
  obtain⟨v41_0,e41,h41_1⟩:=sH hd 1 41 rfl rfl rfl rfl
  exact dc0 (r_call Tryz.func90 en90.1 en90.2 (map2 e39 e41)) (dAdd2_any _ _ _ _ 2 2 _ ((st.f 3 rfl).below hb) h41_1 (by omega) (by omega) (by omega) (by omega)) rfl rfl
 ·intro a' w' hF' hb hd
  exact dv0 (r_load (hF'.at 4 rfl) (ld_all ty_RRat ((st.bk 2 rfl).below hb) rfl)) rfl rfl rfl
 ·intro a' w' hF' hb hd
  exact dv0 (r_load (hF'.at 6 rfl) (ld_all ty_RRat ((st.bk 3 rfl).below hb) rfl)) rfl rfl rfl
 ·intro a' w' hF' hb hd
  have e44:=sHe hd 0 44 rfl rfl rfl rfl
  exact dc0 (r_call Tryz.func23 en23.1 en23.2 (map1 e44)) (rEquation14_any _ _ 2 2 _ ((st.f 3 rfl).below hb) (lim64 (n:=n) (by omega) (by omega)) (by omega) (by omega) (by omega)) rfl rfl
 ·intro a' w' hF' hb hd
  have e43:=sHe hd 0 43 rfl rfl rfl rfl
  obtain⟨v45_0,e45,h45_1⟩:=sH hd 1 45 rfl rfl rfl rfl
  exact dc0 (r_call Tryz.func70 en70.1 en70.2 (map2 e43 e45)) (dSub2_any _ _ _ _ ((2+2+1)+2) (3*2+6*2+350) _ ((st.f 2 rfl).below hb) h45_1 (by omega) (by omega) (by omega) (by omega)) rfl rfl
 ·intro a' w' hF' hb hd
  obtain⟨v42_0,e42,h42_1⟩:=sH hd 0 42 rfl rfl rfl rfl
  obtain⟨v46_0,e46,h46_1⟩:=sH hd 1 46 rfl rfl rfl rfl
  exact dc0 (r_call Tryz.func90 en90.1 en90.2 (map2 e42 e46)) (dAdd2_any _ _ _ _ (2+2+1) (((2+2+1)+2)+(3*2+6*2+350)+1) _ h42_1 h46_1 (by omega) (by omega) (by omega) (by omega)) rfl rfl
 ·intro a' w' hF' hb hd
  exact da0 ty_RRat rfl hb.size rfl
 intro a w23 hF bb hall hne
 have s0:=st
 replace st:=st.to bb
 obtain⟨vv24,e47,hh25⟩:=sS hall 8 47 rfl rfl
 replace st:=st.add hh25 (Rr.cl _)
 clear hh25
 obtain⟨_,e13,g13,rfl,ge13,o13⟩:=sS hall 9 13 rfl rfl
 replace st:=st.push o13.blk (Nat.le_trans s0.bel.size ge13) (s0.ne ge13)
 clear o13
 clear hall hne bb s0
 obtain⟨b26,ad26,n26,c26,ae26,m26,d26,rfl⟩:=Rr.form (st.f 0 rfl)
 replace hF:=hF.add e47
 clear e47
 replace hF:=hF.add e13
 clear e13
 refine S.sto st hF 0 rfl (hF.at 0 rfl) (hF.at 1 rfl) ty_RRat rfl rfl rfl rfl fun w27 a st hF=>?_
 refine E.nil ?_
 refine wp_seq ?_
 refine E.drawn 7 mixed hF [48,49,50,51,52,53,54] [(fun _ v=>v= .agg #[.bool b26,.slice ad26 n26 c26,.slice ae26 m26 d26]),(fun _ v=>v= .agg #[.bool b21,.slice ad21 n21 c21,.slice ae21 m21 d21]),(fun w v=>Rr w v (((1577917828:Int):Rat)/((1582237828:Int):Rat)) (2)),(fun w v=>Rr w v (((1:Int):Rat)/((360:Int):Rat)) (2)),(fun w v=>Rr w v ((((1577917828:Int):Rat)/((1582237828:Int):Rat))*(((1:Int):Rat)/((360:Int):Rat))) ((2+2))),(fun w v=>Rr w v (((((motV (((n:Int):Rat)))*(risV (((n:Int):Rat))))*(((3:Int):Rat)/((4:Int):Rat)))+((((-1:Int):Rat))*(diffV (((n:Int):Rat)) (qa))))*((((1577917828:Int):Rat)/((1582237828:Int):Rat))*(((1:Int):Rat)/((360:Int):Rat)))) ((((((2+2*2+130)+2)+2)+(2+(10*2+50*2+2500))+1)+(2+2)))),(fun w v=>Rr w v ((((((n:Int):Rat))+(((3:Int):Rat)/((4:Int):Rat)))+((((((45461:Int):Rat)/((600:Int):Rat))-(qo))*(((1:Int):Rat)/((360:Int):Rat)))-(eqnV (((n:Int):Rat)))))+(((((motV (((n:Int):Rat)))*(risV (((n:Int):Rat))))*(((3:Int):Rat)/((4:Int):Rat)))+((((-1:Int):Rat))*(diffV (((n:Int):Rat)) (qa))))*((((1577917828:Int):Rat)/((1582237828:Int):Rat))*(((1:Int):Rat)/((360:Int):Rat))))) ((((2+2+1)+(((2+2+1)+2)+(3*2+6*2+350)+1)+1)+(((((2+2*2+130)+2)+2)+(2+(10*2+50*2+2500))+1)+(2+2))+1)))] [] (by decide+kernel) (by decide+kernel) rfl rfl rfl ⟨(Mb.eq _),(Mb.eq _),(fun _ _ _ h hb=>h.below hb),(fun _ _ _ h hb=>h.below hb),(fun _ _ _ h hb=>h.below hb),(fun _ _ _ h hb=>h.below hb),(fun _ _ _ h hb=>h.below hb),trivial⟩ trivial ⟨?_,?_,?_,?_,?_,?_,?_,trivial⟩ ?_
 ·intro a' w' hF' hb hd
  exact dv0 (r_load (hF'.at 0 rfl) (ld_all ty_RRat ((st.bk 0 rfl).below hb) rfl)) rfl rfl rfl
 ·intro a' w' hF' hb hd
  exact dv0 (r_load (hF'.at 2 rfl) (ld_all ty_RRat ((st.bk 1 rfl).below hb) rfl)) rfl rfl rfl
 ·intro a' w' hF' hb hd
  exact dc0 (r_call Tryz.func72 en72.1 en72.2 (map2 ev_c ev_c)) (dOf_any (1577917828) (1582237828) _ (by decide) (by decide) (by decide) (by decide)) rfl rfl
 ·intro a' w' hF' hb hd
  exact dc0 (r_call Tryz.func72 en72.1 en72.2 (map2 ev_c ev_c)) (dOf_any (1) (360) _ (by decide) (by decide) (by decide) (by decide)) rfl rfl
 ·intro a' w' hF' hb hd
  obtain⟨v50_0,e50,h50_1⟩:=sH hd 0 50 rfl rfl rfl rfl
  obtain⟨v51_0,e51,h51_1⟩:=sH hd 1 51 rfl rfl rfl rfl
  exact dc0 (r_call Tryz.func71 en71.1 en71.2 (map2 e50 e51)) (dMul2_any _ _ _ _ 2 2 _ h50_1 h51_1 (by omega) (by omega) (by omega) (by omega)) rfl rfl
 ·intro a' w' hF' hb hd
  have e49:=sHe hd 0 49 rfl rfl rfl rfl
  obtain⟨v52_0,e52,h52_1⟩:=sH hd 1 52 rfl rfl rfl rfl
  exact dc0 (r_call Tryz.func71 en71.1 en71.2 (map2 e49 e52)) (dMul2_any _ _ _ _ ((((2+2*2+130)+2)+2)+(2+(10*2+50*2+2500))+1) (2+2) _ ((st.f 1 rfl).below hb) h52_1 (by omega) (by omega) (by omega) (by omega)) rfl rfl
 ·intro a' w' hF' hb hd
  have e48:=sHe hd 0 48 rfl rfl rfl rfl
  obtain⟨v53_0,e53,h53_1⟩:=sH hd 1 53 rfl rfl rfl rfl
  exact dc0 (r_call Tryz.func90 en90.1 en90.2 (map2 e48 e53)) (dAdd2_any _ _ _ _ ((2+2+1)+(((2+2+1)+2)+(3*2+6*2+350)+1)+1) (((((2+2*2+130)+2)+2)+(2+(10*2+50*2+2500))+1)+(2+2)) _ ((st.f 0 rfl).below hb) h53_1 (by omega) (by omega) (by omega) (by omega)) rfl rfl
 intro a w28 hF bb hall hne
 replace st:=st.to bb
 obtain⟨vv29,e54,hh30⟩:=sS hall 6 54 rfl rfl
 replace st:=st.add hh30 (Rr.cl _)
 clear hh30
 clear hall hne bb
 obtain⟨b31,ad31,n31,c31,ae31,m31,d31,rfl⟩:=Rr.form (st.f 0 rfl)
 replace hF:=hF.add e54
 clear e54
 refine S.sto st hF 5 rfl (hF.at 12 rfl) (hF.at 0 rfl) ty_RRat rfl rfl rfl rfl fun w32 a st hF=>?_
 refine E.nil ?_
 refine wp_ret ?_
 refine S.ret Tryz.results98 st hF (hF.at 12 rfl) 5 rfl ty_RRat rfl hF.dfr ?_
 have bel:=st.bel
 exact⟨_,rfl,Rr.cast (Rr.up (st.f 0 rfl) _ (by omega)) rfl,bel⟩
theorem rDawn14_any (n:Int) (v1:Value) (qa qo:Rat) (w:World) (ho:RPl w v1 qa qo 2) (la2:RLim qa 2) (lo2:RLim qo 2) (hn0: -4000000≤n) (hn1:n≤4000000):
 Calls Tryz.prog 30 #[.int .i64 n,v1] w (RrPost w (bothV ((n:Int):Rat) qa qo 1 1) 3300):=by
 obtain⟨bpx,adpx,npx,cpx,aepx,mpx,dpx,bpy,adpy,npy,cpy,aepy,mpy,dpy,rfl,hpx,hpy⟩:=RPl.shape ho
 have ho:RPl w (.agg #[.bool bpx,.slice adpx npx cpx,.slice aepx mpx dpx,.bool bpy,.slice adpy npy cpy,.slice aepy mpy dpy]) qa qo 2:=⟨_,_,_,_,_,_,_,_,_,_,_,_,_,_,rfl,hpx,hpy⟩
 have st:=St.start w
 refine E.enter (nt:=8) (L:=[(0,.int .i64 n),(1,.agg #[.bool bpx,.slice adpx npx cpx,.slice aepx mpx dpx,.bool bpy,.slice adpy npy cpy,.slice aepy mpy dpy])]) Tryz.func30 rfl rfl rfl (args_cons (i:=0) rfl (args_cons (i:=1) rfl args_nil)) ?_
 intro a hF
 refine wp_seq ?_
 refine E.seq ?_
 refine S.box st hF (hF.at 1 rfl) rfl rfl fun g3 w1 a st hF=>?_
 refine S.alloc st hF ty_RRat rfl rfl fun g4 w2 a st hF=>?_
 refine E.nil ?_
 refine wp_seq ?_
 refine E.seq ?_
 refine E.opv hF (r_move (hF.at 2 rfl)) rfl rfl rfl rfl fun a hF=>?_
 refine E.opv hF (r_load (hF.at 2 rfl) (ld_all ty_RPl (st.bk 1 rfl) rfl)) rfl rfl rfl rfl fun a hF=>?_
 refine S.call st hF (r_call Tryz.func98 en98.1 en98.2 (map4 (hF.at 1 rfl) (hF.at 0 rfl) ev_c ev_c)) (rboth114_any n _ (qa) (qo) _ (ho.below st.bel) la2 lo2 (by omega) (by omega)) (fun _ _ h=>h) Rr.cl rfl rfl rfl rfl fun vv4 w3 a st hF=>?_
 obtain⟨b6,ad6,n6,c6,ae6,m6,d6,rfl⟩:=Rr.form (st.f 0 rfl)
 refine S.sto st hF 0 rfl (hF.at 3 rfl) (hF.at 0 rfl) ty_RRat rfl rfl rfl rfl fun w7 a st hF=>?_
 refine E.nil ?_
 refine wp_ret ?_
 refine S.ret Tryz.results30 st hF (hF.at 3 rfl) 0 rfl ty_RRat rfl hF.dfr ?_
 have bel:=st.bel
 exact⟨_,rfl,Rr.cast (Rr.up (st.f 0 rfl) _ (by omega)) rfl,bel⟩
theorem rDusk14_any (n:Int) (v1:Value) (qa qo:Rat) (w:World) (ho:RPl w v1 qa qo 2) (la2:RLim qa 2) (lo2:RLim qo 2) (hn0: -4000000≤n) (hn1:n≤4000000):
 Calls Tryz.prog 31 #[.int .i64 n,v1] w (RrPost w (bothV ((n:Int):Rat) qa qo 3 (-1)) 3300):=by
 obtain⟨bpx,adpx,npx,cpx,aepx,mpx,dpx,bpy,adpy,npy,cpy,aepy,mpy,dpy,rfl,hpx,hpy⟩:=RPl.shape ho
 have ho:RPl w (.agg #[.bool bpx,.slice adpx npx cpx,.slice aepx mpx dpx,.bool bpy,.slice adpy npy cpy,.slice aepy mpy dpy]) qa qo 2:=⟨_,_,_,_,_,_,_,_,_,_,_,_,_,_,rfl,hpx,hpy⟩
 have st:=St.start w
 refine E.enter (nt:=8) (L:=[(0,.int .i64 n),(1,.agg #[.bool bpx,.slice adpx npx cpx,.slice aepx mpx dpx,.bool bpy,.slice adpy npy cpy,.slice aepy mpy dpy])]) Tryz.func31 rfl rfl rfl (args_cons (i:=0) rfl (args_cons (i:=1) rfl args_nil)) ?_
 intro a hF
 refine wp_seq ?_
 refine E.seq ?_
 refine S.box st hF (hF.at 1 rfl) rfl rfl fun g3 w1 a st hF=>?_
 refine S.alloc st hF ty_RRat rfl rfl fun g4 w2 a st hF=>?_
 refine E.nil ?_
 refine wp_seq ?_
 refine E.seq ?_
 refine E.opv hF (r_move (hF.at 2 rfl)) rfl rfl rfl rfl fun a hF=>?_
 refine E.opv hF (r_load (hF.at 2 rfl) (ld_all ty_RPl (st.bk 1 rfl) rfl)) rfl rfl rfl rfl fun a hF=>?_
 refine S.call st hF (r_call Tryz.func98 en98.1 en98.2 (map4 (hF.at 1 rfl) (hF.at 0 rfl) ev_c ev_c)) (rboth314_any n _ (qa) (qo) _ (ho.below st.bel) la2 lo2 (by omega) (by omega)) (fun _ _ h=>h) Rr.cl rfl rfl rfl rfl fun vv4 w3 a st hF=>?_
 obtain⟨b6,ad6,n6,c6,ae6,m6,d6,rfl⟩:=Rr.form (st.f 0 rfl)
 refine S.sto st hF 0 rfl (hF.at 3 rfl) (hF.at 0 rfl) ty_RRat rfl rfl rfl rfl fun w7 a st hF=>?_
 refine E.nil ?_
 refine wp_ret ?_
 refine S.ret Tryz.results31 st hF (hF.at 3 rfl) 0 rfl ty_RRat rfl hF.dfr ?_
 have bel:=st.bel
 exact⟨_,rfl,Rr.cast (Rr.up (st.f 0 rfl) _ (by omega)) rfl,bel⟩
end Go.Proofs.YtpkhdajnppoinaaGreatDoor
