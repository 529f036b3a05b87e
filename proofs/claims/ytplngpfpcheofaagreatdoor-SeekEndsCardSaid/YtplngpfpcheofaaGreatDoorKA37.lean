import Derived.Test.YtplngpfpcheofaaGreatDoorKA29
import Derived.Test.YtplngpfpcheofaaGreatDoorKA35
import Derived.Test.YtplngpfpcheofaaGreatDoorKA36
namespace Go.Proofs.YtplngpfpcheofaaGreatDoor
open Go.RowKit
set_option maxRecDepth 100000
set_option linter.unusedVariables false
set_option maxHeartbeats 8000000
theorem en147:(Tryz.f147.name == "runtime.NumGoroutine")=false∧Tryz.f147.body.isNone=false:=⟨by decide+kernel,by kernel_rfl⟩
theorem en112:(Tryz.f112.name == "runtime.NumGoroutine")=false∧Tryz.f112.body.isNone=false:=⟨by decide+kernel,by kernel_rfl⟩
theorem en111:(Tryz.f111.name == "runtime.NumGoroutine")=false∧Tryz.f111.body.isNone=false:=⟨by decide+kernel,by kernel_rfl⟩
theorem en70:(Tryz.f70.name == "runtime.NumGoroutine")=false∧Tryz.f70.body.isNone=false:=⟨by decide+kernel,by kernel_rfl⟩
theorem en113:(Tryz.f113.name == "runtime.NumGoroutine")=false∧Tryz.f113.body.isNone=false:=⟨by decide+kernel,by kernel_rfl⟩
theorem en71:(Tryz.f71.name == "runtime.NumGoroutine")=false∧Tryz.f71.body.isNone=false:=⟨by decide+kernel,by kernel_rfl⟩
theorem map5 {a:Act} {x1 x2 x3 x4 x5:Operand} {u1 u2 u3 u4 u5:Value} (h1:a.eval x1=u1) (h2:a.eval x2=u2) (h3:a.eval x3=u3) (h4:a.eval x4=u4) (h5:a.eval x5=u5):#[x1,x2,x3,x4,x5].map a.eval=#[u1,u2,u3,u4,u5]:=by simp[h1,h2,h3,h4,h5]
theorem pid_sun (q:Rat):rmod (sunV q) ((360:Int):Rat)=sunV q:=rmod_id (sunV_low q) (sunV_high q)
theorem pid_moon (q:Rat):rmod (moonV q) ((360:Int):Rat)=moonV q:=rmod_id (moonV_low q) (moonV_high q)
theorem pid_phase (q:Rat):rmod (phaseV q) ((360:Int):Rat)=phaseV q:=rmod_id (phaseV_low q) (phaseV_high q)
theorem pid_yoga (q:Rat):rmod (sunV q+moonV q) ((360:Int):Rat)=yogaV q:=by unfold yogaV;rw[Rat.add_comm]
theorem prt_s {x:Rat} {n:Int} (hn:0<n) (hn2:n≤1000):0≤Rat.floor ((rmod x ((360:Int):Rat))*(((n:Int):Rat)/((360:Int):Rat)))∧Rat.floor ((rmod x ((360:Int):Rat))*(((n:Int):Rat)/((360:Int):Rat)))<65536:=by
 have:=prt_bd (n:=n) (x:=rmod x ((360:Int):Rat)) hn (rmod_low c360_pos) (rmod_high c360_pos)
 exact⟨show 0≤prt _ n by omega,show prt _ n<_ by omega⟩
theorem rAt12_any (v1 v2 v3 v4 v5:Value) (q1 q2 q3 q4 q5:Rat) (k i:Nat) (w:World) (h1:Rr w v1 q1 k) (h2:Rr w v2 q2 12) (h3:Rr w v3 q3 12) (h4:Rr w v4 q4 12) (h5:Rr w v5 q5 12) (li1:RLim q1 i) (li2:RLim q2 2) (li3:RLim q3 2) (li4:RLim q4 2) (li5:RLim q5 2) (hp:1≤k) (hk:k≤20) (hi:i≤10):
 Calls Tryz.prog 147 #[v1,v2,v3,v4,v5] w (RrPost w (atv q1 q2 q3 q4 q5) (3*k+8*i+400)):=by
 obtain⟨b1,ad1,n1,c1,ae1,m1,d1,rfl⟩:=h1.form
 obtain⟨b2,ad2,n2,c2,ae2,m2,d2,rfl⟩:=h2.form
 obtain⟨b3,ad3,n3,c3,ae3,m3,d3,rfl⟩:=h3.form
 obtain⟨b4,ad4,n4,c4,ae4,m4,d4,rfl⟩:=h4.form
 obtain⟨b5,ad5,n5,c5,ae5,m5,d5,rfl⟩:=h5.form
 have st:=St.start w
 refine E.enter (nt:=37) (L:=[(0,.agg #[.bool b1,.slice ad1 n1 c1,.slice ae1 m1 d1]),(1,.agg #[.bool b2,.slice ad2 n2 c2,.slice ae2 m2 d2]),(2,.agg #[.bool b3,.slice ad3 n3 c3,.slice ae3 m3 d3]),(3,.agg #[.bool b4,.slice ad4 n4 c4,.slice ae4 m4 d4]),(4,.agg #[.bool b5,.slice ad5 n5 c5,.slice ae5 m5 d5])]) Tryz.func147 rfl rfl rfl (args_cons (i:=0) rfl (args_cons (i:=1) rfl (args_cons (i:=2) rfl (args_cons (i:=3) rfl (args_cons (i:=4) rfl args_nil))))) ?_
 intro a hF
 refine wp_seq ?_
 refine E.seq ?_
 refine S.box st hF (hF.at 0 rfl) rfl rfl fun g5 w1 a st hF=>?_
 refine S.box st hF (hF.at 2 rfl) rfl rfl fun g6 w2 a st hF=>?_
 refine S.box st hF (hF.at 4 rfl) rfl rfl fun g7 w3 a st hF=>?_
 refine S.box st hF (hF.at 6 rfl) rfl rfl fun g8 w4 a st hF=>?_
 refine S.box st hF (hF.at 8 rfl) rfl rfl fun g9 w5 a st hF=>?_
 refine S.alloc st hF ty_RRat rfl rfl fun g10 w6 a st hF=>?_
 refine E.nil ?_
 refine wp_seq ?_
 refine E.seq ?_
 refine E.opv hF (r_load (hF.at 5 rfl) (ld_all ty_RRat (st.bk 5 rfl) rfl)) rfl rfl rfl rfl fun a hF=>?_
 refine E.opv hF (r_load (hF.at 4 rfl) (ld_all ty_RRat (st.bk 3 rfl) rfl)) rfl rfl rfl rfl fun a hF=>?_
 refine S.call st hF (r_call Tryz.func171 en171.1 en171.2 (map2 (hF.at 1 rfl) (hF.at 0 rfl))) (rMof_any _ _ (q1) (q3) k 12 i 2 _ (h1.below st.bel) (h3.below st.bel) li1 li3 (by omega) (by omega) (by omega) (by omega) (by omega) (by omega)) (fun _ _ h=>h) Rr.cl rfl rfl rfl rfl fun vv8 w7 a st hF=>?_
 obtain⟨b10,ad10,n10,c10,ae10,m10,d10,rfl⟩:=Rr.form (st.f 0 rfl)
 refine S.call st hF (r_call Tryz.func170 en170.1 en170.2 (map1 (hF.at 0 rfl))) (rsof2_any _ _ (k+12+i+2+30) (i+2+5) _ (st.f 0 rfl) (mof_lim li1 li3) (by omega) (by omega) (by omega)) (fun _ _ h=>h) Rr.cl rfl rfl rfl rfl fun vv12 w11 a st hF=>?_
 obtain⟨b14,ad14,n14,c14,ae14,m14,d14,rfl⟩:=Rr.form (st.f 0 rfl)
 refine S.new st hF 0 rfl ty_RRat rfl rfl rfl rfl rfl fun g11 w15 a st hF=>?_
 refine E.nil ?_
 refine wp_seq ?_
 refine E.drawn 7 mixed hF [18,19,20,21,22,23,12] [(fun _ v=>v= .agg #[.bool b14,.slice ad14 n14 c14,.slice ae14 m14 d14]),(fun w v=>Rr w v (Rat.abs (sof (mof (q1) (q3)))) (((k+12+i+2+30)+(i+2+5)+40))),(fun _ v=>v= .agg #[.bool b5,.slice ad5 n5 c5,.slice ae5 m5 d5]),(fun w v=>Rr w v ((Rat.abs (sof (mof (q1) (q3))))*(q5)) ((((k+12+i+2+30)+(i+2+5)+40)+12))),(fun _ v=>v= .agg #[.bool b4,.slice ad4 n4 c4,.slice ae4 m4 d4]),(fun w v=>Rr w v (((Rat.abs (sof (mof (q1) (q3))))*(q5))*(q4)) (((((k+12+i+2+30)+(i+2+5)+40)+12)+12))),(fun w v=>∃g,v= .pointer (some ⟨g,0,none⟩)∧w15.heap.size≤g∧Own w g [.bool false,.slice none 0 0,.slice none 0 0])] [6] (by decide+kernel) (by decide+kernel) rfl rfl rfl ⟨(Mb.eq _),(fun _ _ _ h hb=>h.below hb),(Mb.eq _),(fun _ _ _ h hb=>h.below hb),(Mb.eq _),(fun _ _ _ h hb=>h.below hb),(fun _ _ _ ⟨g,e,l,o⟩ hb=>⟨g,e,l,o.below hb⟩),trivial⟩ ⟨fun _ _ ⟨g,e,_,o⟩=>⟨g,e,o.lt⟩,trivial⟩ ⟨?_,?_,?_,?_,?_,?_,?_,trivial⟩ ?_
 ·intro a' w' hF' hb hd
  exact dv0 (r_load (hF'.at 0 rfl) (ld_all ty_RRat ((st.bk 0 rfl).below hb) rfl)) rfl rfl rfl
 ·intro a' w' hF' hb hd
  have e18:=sHe hd 0 18 rfl rfl rfl rfl
  exact dc0 (r_call Tryz.func172 en172.1 en172.2 (map1 e18)) (dAbs_any _ _ ((k+12+i+2+30)+(i+2+5)+40) _ ((st.f 0 rfl).below hb)) rfl rfl
 ·intro a' w' hF' hb hd
  exact dv0 (r_load (hF'.at 6 rfl) (ld_all ty_RRat ((st.bk 2 rfl).below hb) rfl)) rfl rfl rfl
 ·intro a' w' hF' hb hd
  obtain⟨v19_0,e19,h19_1⟩:=sH hd 0 19 rfl rfl rfl rfl
  have e20:=sHe hd 1 20 rfl rfl rfl rfl
  exact dc0 (r_call Tryz.func69 en69.1 en69.2 (map2 e19 e20)) (dMul2_any _ _ _ (q5) ((k+12+i+2+30)+(i+2+5)+40) 12 _ h19_1 (h5.below (below_to st.bel hb)) (by omega) (by omega) (by omega) (by omega)) rfl rfl
 ·intro a' w' hF' hb hd
  exact dv0 (r_load (hF'.at 7 rfl) (ld_all ty_RRat ((st.bk 3 rfl).below hb) rfl)) rfl rfl rfl
 ·intro a' w' hF' hb hd
  obtain⟨v21_0,e21,h21_1⟩:=sH hd 0 21 rfl rfl rfl rfl
  have e22:=sHe hd 1 22 rfl rfl rfl rfl
  exact dc0 (r_call Tryz.func69 en69.1 en69.2 (map2 e21 e22)) (dMul2_any _ _ _ (q4) (((k+12+i+2+30)+(i+2+5)+40)+12) 12 _ h21_1 (h4.below (below_to st.bel hb)) (by omega) (by omega) (by omega) (by omega)) rfl rfl
 ·intro a' w' hF' hb hd
  exact da0 ty_RRat rfl hb.size rfl
 intro a w16 hF bb hall hne
 have s0:=st
 replace st:=st.to bb
 obtain⟨vv17,e23,hh18⟩:=sS hall 5 23 rfl rfl
 replace st:=st.add hh18 (Rr.cl _)
 clear hh18
 obtain⟨_,e12,g12,rfl,ge12,o12⟩:=sS hall 6 12 rfl rfl
 replace st:=st.push o12.blk (Nat.le_trans s0.bel.size ge12) (s0.ne ge12)
 clear o12
 clear hall hne bb s0
 obtain⟨b19,ad19,n19,c19,ae19,m19,d19,rfl⟩:=Rr.form (st.f 0 rfl)
 replace hF:=hF.add e23
 clear e23
 replace hF:=hF.add e12
 clear e12
 refine S.sto st hF 0 rfl (hF.at 0 rfl) (hF.at 1 rfl) ty_RRat rfl rfl rfl rfl fun w20 a st hF=>?_
 refine E.nil ?_
 refine wp_seq ?_
 refine E.drawn 7 mixed hF [24,25,26,27,28,29,13] [(fun _ v=>v= .agg #[.bool b14,.slice ad14 n14 c14,.slice ae14 m14 d14]),(fun _ v=>v= .agg #[.bool b4,.slice ad4 n4 c4,.slice ae4 m4 d4]),(fun _ v=>v= .agg #[.bool b19,.slice ad19 n19 c19,.slice ae19 m19 d19]),(fun w v=>Rr w v ((q4)-(((Rat.abs (sof (mof (q1) (q3))))*(q5))*(q4))) ((12+((((k+12+i+2+30)+(i+2+5)+40)+12)+12)+1))),(fun w v=>Rr w v ((sof (mof (q1) (q3)))*((q4)-(((Rat.abs (sof (mof (q1) (q3))))*(q5))*(q4)))) ((((k+12+i+2+30)+(i+2+5)+40)+(12+((((k+12+i+2+30)+(i+2+5)+40)+12)+12)+1)))),(fun w v=>Rr w v (arcv ((sof (mof (q1) (q3)))*((q4)-(((Rat.abs (sof (mof (q1) (q3))))*(q5))*(q4))))) (((((k+12+i+2+30)+(i+2+5)+40)+(12+((((k+12+i+2+30)+(i+2+5)+40)+12)+12)+1))+20))),(fun w v=>∃g,v= .pointer (some ⟨g,0,none⟩)∧w20.heap.size≤g∧Own w g [.bool false,.slice none 0 0,.slice none 0 0])] [6] (by decide+kernel) (by decide+kernel) rfl rfl rfl ⟨(Mb.eq _),(Mb.eq _),(Mb.eq _),(fun _ _ _ h hb=>h.below hb),(fun _ _ _ h hb=>h.below hb),(fun _ _ _ h hb=>h.below hb),(fun _ _ _ ⟨g,e,l,o⟩ hb=>⟨g,e,l,o.below hb⟩),trivial⟩ ⟨fun _ _ ⟨g,e,_,o⟩=>⟨g,e,o.lt⟩,trivial⟩ ⟨?_,?_,?_,?_,?_,?_,?_,trivial⟩ ?_
 ·intro a' w' hF' hb hd
  exact dv0 (r_load (hF'.at 2 rfl) (ld_all ty_RRat ((st.bk 1 rfl).below hb) rfl)) rfl rfl rfl
 ·intro a' w' hF' hb hd
  exact dv0 (r_load (hF'.at 9 rfl) (ld_all ty_RRat ((st.bk 4 rfl).below hb) rfl)) rfl rfl rfl
 ·intro a' w' hF' hb hd
  exact dv0 (r_load (hF'.at 0 rfl) (ld_all ty_RRat ((st.bk 0 rfl).below hb) rfl)) rfl rfl rfl
 ·intro a' w' hF' hb hd
  have e25:=sHe hd 0 25 rfl rfl rfl rfl
  have e26:=sHe hd 1 26 rfl rfl rfl rfl
  exact dc0 (r_call Tryz.func68 en68.1 en68.2 (map2 e25 e26)) (dSub2_any _ _ (q4) _ 12 ((((k+12+i+2+30)+(i+2+5)+40)+12)+12) _ (h4.below (below_to st.bel hb)) ((st.f 0 rfl).below hb) (by omega) (by omega) (by omega) (by omega)) rfl rfl
 ·intro a' w' hF' hb hd
  have e24:=sHe hd 0 24 rfl rfl rfl rfl
  obtain⟨v27_0,e27,h27_1⟩:=sH hd 1 27 rfl rfl rfl rfl
  exact dc0 (r_call Tryz.func69 en69.1 en69.2 (map2 e24 e27)) (dMul2_any _ _ _ ((q4)-(((Rat.abs _)*(q5))*(q4))) ((k+12+i+2+30)+(i+2+5)+40) (12+((((k+12+i+2+30)+(i+2+5)+40)+12)+12)+1) _ ((st.f 1 rfl).below hb) h27_1 (by omega) (by omega) (by omega) (by omega)) rfl rfl
 ·intro a' w' hF' hb hd
  obtain⟨v28_0,e28,h28_1⟩:=sH hd 0 28 rfl rfl rfl rfl
  exact dc0 (r_call Tryz.func173 en173.1 en173.2 (map1 e28)) (rarc2_any _ _ (((k+12+i+2+30)+(i+2+5)+40)+(12+((((k+12+i+2+30)+(i+2+5)+40)+12)+12)+1)) _ h28_1 (by omega) (by omega)) rfl rfl
 ·intro a' w' hF' hb hd
  exact da0 ty_RRat rfl hb.size rfl
 intro a w21 hF bb hall hne
 have s0:=st
 replace st:=st.to bb
 obtain⟨vv22,e29,hh23⟩:=sS hall 5 29 rfl rfl
 replace st:=st.add hh23 (Rr.cl _)
 clear hh23
 obtain⟨_,e13,g13,rfl,ge13,o13⟩:=sS hall 6 13 rfl rfl
 replace st:=st.push o13.blk (Nat.le_trans s0.bel.size ge13) (s0.ne ge13)
 clear o13
 clear hall hne bb s0
 obtain⟨b24,ad24,n24,c24,ae24,m24,d24,rfl⟩:=Rr.form (st.f 0 rfl)
 replace hF:=hF.add e29
 clear e29
 replace hF:=hF.add e13
 clear e13
 refine S.sto st hF 0 rfl (hF.at 0 rfl) (hF.at 1 rfl) ty_RRat rfl rfl rfl rfl fun w25 a st hF=>?_
 refine E.nil ?_
 refine wp_seq ?_
 refine E.drawn 7 mixed hF [30,31,32,33,34,35,36] [(fun _ v=>v= .agg #[.bool b1,.slice ad1 n1 c1,.slice ae1 m1 d1]),(fun _ v=>v= .agg #[.bool b2,.slice ad2 n2 c2,.slice ae2 m2 d2]),(fun w v=>Rr w v (mof (q1) (q2)) ((k+12+i+2+30))),(fun _ v=>v= .agg #[.bool b24,.slice ad24 n24 c24,.slice ae24 m24 d24]),(fun w v=>Rr w v ((mof (q1) (q2))-(arcv ((sof (mof (q1) (q3)))*((q4)-(((Rat.abs (sof (mof (q1) (q3))))*(q5))*(q4)))))) (((k+12+i+2+30)+((((k+12+i+2+30)+(i+2+5)+40)+(12+((((k+12+i+2+30)+(i+2+5)+40)+12)+12)+1))+20)+1))),(fun w v=>Rr w v (((360:Int):Rat)) (2)),(fun w v=>Rr w v (rmod ((mof (q1) (q2))-(arcv ((sof (mof (q1) (q3)))*((q4)-(((Rat.abs (sof (mof (q1) (q3))))*(q5))*(q4)))))) (((360:Int):Rat))) ((((k+12+i+2+30)+((((k+12+i+2+30)+(i+2+5)+40)+(12+((((k+12+i+2+30)+(i+2+5)+40)+12)+12)+1))+20)+1)+2+((i+2+5)+((((i+2+5)+12)+(2+((((i+2+5)+12)+2)+2)+1))+20)+1)+2+3)))] [] (by decide+kernel) (by decide+kernel) rfl rfl rfl ⟨(Mb.eq _),(Mb.eq _),(fun _ _ _ h hb=>h.below hb),(Mb.eq _),(fun _ _ _ h hb=>h.below hb),(fun _ _ _ h hb=>h.below hb),(fun _ _ _ h hb=>h.below hb),trivial⟩ trivial ⟨?_,?_,?_,?_,?_,?_,?_,trivial⟩ ?_
 ·intro a' w' hF' hb hd
  exact dv0 (r_load (hF'.at 14 rfl) (ld_all ty_RRat ((st.bk 8 rfl).below hb) rfl)) rfl rfl rfl
 ·intro a' w' hF' hb hd
  exact dv0 (r_load (hF'.at 13 rfl) (ld_all ty_RRat ((st.bk 7 rfl).below hb) rfl)) rfl rfl rfl
 ·intro a' w' hF' hb hd
  have e30:=sHe hd 0 30 rfl rfl rfl rfl
  have e31:=sHe hd 1 31 rfl rfl rfl rfl
  exact dc0 (r_call Tryz.func171 en171.1 en171.2 (map2 e30 e31)) (rMof_any _ _ (q1) (q2) k 12 i 2 _ (h1.below (below_to st.bel hb)) (h2.below (below_to st.bel hb)) li1 li2 (by omega) (by omega) (by omega) (by omega) (by omega) (by omega)) rfl rfl
 ·intro a' w' hF' hb hd
  exact dv0 (r_load (hF'.at 0 rfl) (ld_all ty_RRat ((st.bk 0 rfl).below hb) rfl)) rfl rfl rfl
 ·intro a' w' hF' hb hd
  obtain⟨v32_0,e32,h32_1⟩:=sH hd 0 32 rfl rfl rfl rfl
  have e33:=sHe hd 1 33 rfl rfl rfl rfl
  exact dc0 (r_call Tryz.func68 en68.1 en68.2 (map2 e32 e33)) (dSub2_any _ _ _ _ (k+12+i+2+30) ((((k+12+i+2+30)+(i+2+5)+40)+(12+((((k+12+i+2+30)+(i+2+5)+40)+12)+12)+1))+20) _ h32_1 ((st.f 0 rfl).below hb) (by omega) (by omega) (by omega) (by omega)) rfl rfl
 ·intro a' w' hF' hb hd
  exact dc0 (r_call Tryz.func16 en16.1 en16.2 (map2 ev_c ev_c)) (dOf1b_any (360) _ (by decide) (by decide)) rfl rfl
 ·intro a' w' hF' hb hd
  obtain⟨v34_0,e34,h34_1⟩:=sH hd 0 34 rfl rfl rfl rfl
  obtain⟨v35_0,e35,h35_1⟩:=sH hd 1 35 rfl rfl rfl rfl
  exact dc0 (r_call Tryz.func110 en110.1 en110.2 (map2 e34 e35)) (dMod2_any _ _ _ _ ((k+12+i+2+30)+((((k+12+i+2+30)+(i+2+5)+40)+(12+((((k+12+i+2+30)+(i+2+5)+40)+12)+12)+1))+20)+1) 2 ((i+2+5)+((((i+2+5)+12)+(2+((((i+2+5)+12)+2)+2)+1))+20)+1) 2 _ h34_1 h35_1 (rlim_sub (mof_lim li1 li2) (arcv_lim (rlim_mul (sof_lim2 (mof_lim li1 li3)) (rlim_sub li4 (rlim_mul (rlim_mul (rlim_abs (sof_lim2 (mof_lim li1 li3))) li5) li4))))) (lim64 (by decide) (by decide)) (by omega) (by omega) (by omega) (by omega) (by omega) (by omega)) rfl rfl
 intro a w26 hF bb hall hne
 replace st:=st.to bb
 obtain⟨vv27,e36,hh28⟩:=sS hall 6 36 rfl rfl
 replace st:=st.add hh28 (Rr.cl _)
 clear hh28
 clear hall hne bb
 obtain⟨b29,ad29,n29,c29,ae29,m29,d29,rfl⟩:=Rr.form (st.f 0 rfl)
 replace hF:=hF.add e36
 clear e36
 refine S.sto st hF 3 rfl (hF.at 10 rfl) (hF.at 0 rfl) ty_RRat rfl rfl rfl rfl fun w30 a st hF=>?_
 refine E.nil ?_
 refine wp_ret ?_
 refine S.ret Tryz.results147 st hF (hF.at 10 rfl) 3 rfl ty_RRat rfl hF.dfr ?_
 have bel:=st.bel
 exact⟨_,rfl,Rr.cast (Rr.up (st.f 0 rfl) _ (by omega)) rfl,bel⟩
theorem rSun12_any (v1:Value) (q1:Rat) (k i:Nat) (w:World) (h1:Rr w v1 q1 k) (li1:RLim q1 i) (hp:1≤k) (hk:k≤20) (hi:i≤3):
 Calls Tryz.prog 112 #[v1] w (RrPost w (sunV q1) (3*k+8*i+400)):=by
 obtain⟨b1,ad1,n1,c1,ae1,m1,d1,rfl⟩:=h1.form
 have st:=St.start w
 refine E.enter (nt:=9) (L:=[(0,.agg #[.bool b1,.slice ad1 n1 c1,.slice ae1 m1 d1])]) Tryz.func112 rfl rfl rfl (args_cons (i:=0) rfl args_nil) ?_
 intro a hF
 refine wp_seq ?_
 refine E.seq ?_
 refine S.box st hF (hF.at 0 rfl) rfl rfl fun g1 w1 a st hF=>?_
 refine S.alloc st hF ty_RRat rfl rfl fun g2 w2 a st hF=>?_
 refine E.nil ?_
 refine wp_seq ?_
 refine E.drawn 6 mixed hF [3,4,5,6,7,8] [(fun _ v=>v= .agg #[.bool b1,.slice ad1 n1 c1,.slice ae1 m1 d1]),(fun w v=>Rr w v (pyr) (7)),(fun w v=>Rr w v (pay) (7)),(fun w v=>Rr w v (((7:Int):Rat)/((180:Int):Rat)) (2)),(fun w v=>Rr w v (((1:Int):Rat)/((42:Int):Rat)) (2)),(fun w v=>Rr w v (atv (q1) (pyr) (pay) (((7:Int):Rat)/((180:Int):Rat)) (((1:Int):Rat)/((42:Int):Rat))) ((3*k+8*i+400)))] [] (by decide+kernel) (by decide+kernel) rfl rfl rfl ⟨(Mb.eq _),(fun _ _ _ h hb=>h.below hb),(fun _ _ _ h hb=>h.below hb),(fun _ _ _ h hb=>h.below hb),(fun _ _ _ h hb=>h.below hb),(fun _ _ _ h hb=>h.below hb),trivial⟩ trivial ⟨?_,?_,?_,?_,?_,?_,trivial⟩ ?_
 ·intro a' w' hF' hb hd
  exact dv0 (r_load (hF'.at 1 rfl) (ld_all ty_RRat ((st.bk 1 rfl).below hb) rfl)) rfl rfl rfl
 ·intro a' w' hF' hb hd
  exact dc0 (r_call Tryz.func150 en150.1 en150.2 map0) (rYear11_any _) rfl rfl
 ·intro a' w' hF' hb hd
  exact dc0 (r_call Tryz.func151 en151.1 en151.2 map0) (rAnomalyYear11_any _) rfl rfl
 ·intro a' w' hF' hb hd
  exact dc0 (r_call Tryz.func16 en16.1 en16.2 (map2 ev_c ev_c)) (dOf_any (7) (180) _ (by decide) (by decide) (by decide) (by decide)) rfl rfl
 ·intro a' w' hF' hb hd
  exact dc0 (r_call Tryz.func16 en16.1 en16.2 (map2 ev_c ev_c)) (dOf_any (1) (42) _ (by decide) (by decide) (by decide) (by decide)) rfl rfl
 ·intro a' w' hF' hb hd
  have e3:=sHe hd 0 3 rfl rfl rfl rfl
  obtain⟨v4_0,e4,h4_1⟩:=sH hd 1 4 rfl rfl rfl rfl
  obtain⟨v5_0,e5,h5_1⟩:=sH hd 2 5 rfl rfl rfl rfl
  obtain⟨v6_0,e6,h6_1⟩:=sH hd 3 6 rfl rfl rfl rfl
  obtain⟨v7_0,e7,h7_1⟩:=sH hd 4 7 rfl rfl rfl rfl
  exact dc0 (r_call Tryz.func147 en147.1 en147.2 (map5 e3 e4 e5 e6 e7)) (rAt12_any _ _ _ _ _ (q1) (pyr) (pay) _ _ k i _ (h1.below (below_to st.bel hb)) (Rr.up h4_1 12 (by omega)) (Rr.up h5_1 12 (by omega)) (Rr.up h6_1 12 (by omega)) (Rr.up h7_1 12 (by omega)) li1 pyr_lim pay_lim (RLim.up (rlim_mk2 (limz_64 (by decide) (by decide)) (limz_64 (by decide) (by decide))) 2 (by decide)) (RLim.up (rlim_mk2 (limz_64 (by decide) (by decide)) (limz_64 (by decide) (by decide))) 2 (by decide)) (by omega) (by omega) (by omega)) rfl rfl
 intro a w3 hF bb hall hne
 replace st:=st.to bb
 obtain⟨vv4,e8,hh5⟩:=sS hall 5 8 rfl rfl
 replace st:=st.add hh5 (Rr.cl _)
 clear hh5
 clear hall hne bb
 obtain⟨b6,ad6,n6,c6,ae6,m6,d6,rfl⟩:=Rr.form (st.f 0 rfl)
 replace hF:=hF.add e8
 clear e8
 refine S.sto st hF 0 rfl (hF.at 1 rfl) (hF.at 0 rfl) ty_RRat rfl rfl rfl rfl fun w7 a st hF=>?_
 refine E.nil ?_
 refine wp_ret ?_
 refine S.ret Tryz.results112 st hF (hF.at 1 rfl) 0 rfl ty_RRat rfl hF.dfr ?_
 have bel:=st.bel
 exact⟨_,rfl,Rr.cast (Rr.up (st.f 0 rfl) _ (by omega)) (by rw[show((7:Int):Rat)/((180:Int):Rat)=ssz by decide+kernel];rfl),bel⟩
theorem rMoon12_any (v1:Value) (q1:Rat) (k i:Nat) (w:World) (h1:Rr w v1 q1 k) (li1:RLim q1 i) (hp:1≤k) (hk:k≤20) (hi:i≤3):
 Calls Tryz.prog 111 #[v1] w (RrPost w (moonV q1) (3*k+8*i+400)):=by
 obtain⟨b1,ad1,n1,c1,ae1,m1,d1,rfl⟩:=h1.form
 have st:=St.start w
 refine E.enter (nt:=9) (L:=[(0,.agg #[.bool b1,.slice ad1 n1 c1,.slice ae1 m1 d1])]) Tryz.func111 rfl rfl rfl (args_cons (i:=0) rfl args_nil) ?_
 intro a hF
 refine wp_seq ?_
 refine E.seq ?_
 refine S.box st hF (hF.at 0 rfl) rfl rfl fun g1 w1 a st hF=>?_
 refine S.alloc st hF ty_RRat rfl rfl fun g2 w2 a st hF=>?_
 refine E.nil ?_
 refine wp_seq ?_
 refine E.drawn 6 mixed hF [3,4,5,6,7,8] [(fun _ v=>v= .agg #[.bool b1,.slice ad1 n1 c1,.slice ae1 m1 d1]),(fun w v=>Rr w v (pmo) (7)),(fun w v=>Rr w v (pam) (7)),(fun w v=>Rr w v (((4:Int):Rat)/((45:Int):Rat)) (2)),(fun w v=>Rr w v (((1:Int):Rat)/((96:Int):Rat)) (2)),(fun w v=>Rr w v (atv (q1) (pmo) (pam) (((4:Int):Rat)/((45:Int):Rat)) (((1:Int):Rat)/((96:Int):Rat))) ((3*k+8*i+400)))] [] (by decide+kernel) (by decide+kernel) rfl rfl rfl ⟨(Mb.eq _),(fun _ _ _ h hb=>h.below hb),(fun _ _ _ h hb=>h.below hb),(fun _ _ _ h hb=>h.below hb),(fun _ _ _ h hb=>h.below hb),(fun _ _ _ h hb=>h.below hb),trivial⟩ trivial ⟨?_,?_,?_,?_,?_,?_,trivial⟩ ?_
 ·intro a' w' hF' hb hd
  exact dv0 (r_load (hF'.at 1 rfl) (ld_all ty_RRat ((st.bk 1 rfl).below hb) rfl)) rfl rfl rfl
 ·intro a' w' hF' hb hd
  exact dc0 (r_call Tryz.func148 en148.1 en148.2 map0) (rMonth11_any _) rfl rfl
 ·intro a' w' hF' hb hd
  exact dc0 (r_call Tryz.func149 en149.1 en149.2 map0) (rAnomalyMonth11_any _) rfl rfl
 ·intro a' w' hF' hb hd
  exact dc0 (r_call Tryz.func16 en16.1 en16.2 (map2 ev_c ev_c)) (dOf_any (4) (45) _ (by decide) (by decide) (by decide) (by decide)) rfl rfl
 ·intro a' w' hF' hb hd
  exact dc0 (r_call Tryz.func16 en16.1 en16.2 (map2 ev_c ev_c)) (dOf_any (1) (96) _ (by decide) (by decide) (by decide) (by decide)) rfl rfl
 ·intro a' w' hF' hb hd
  have e3:=sHe hd 0 3 rfl rfl rfl rfl
  obtain⟨v4_0,e4,h4_1⟩:=sH hd 1 4 rfl rfl rfl rfl
  obtain⟨v5_0,e5,h5_1⟩:=sH hd 2 5 rfl rfl rfl rfl
  obtain⟨v6_0,e6,h6_1⟩:=sH hd 3 6 rfl rfl rfl rfl
  obtain⟨v7_0,e7,h7_1⟩:=sH hd 4 7 rfl rfl rfl rfl
  exact dc0 (r_call Tryz.func147 en147.1 en147.2 (map5 e3 e4 e5 e6 e7)) (rAt12_any _ _ _ _ _ (q1) (pmo) (pam) _ _ k i _ (h1.below (below_to st.bel hb)) (Rr.up h4_1 12 (by omega)) (Rr.up h5_1 12 (by omega)) (Rr.up h6_1 12 (by omega)) (Rr.up h7_1 12 (by omega)) li1 pmo_lim pam_lim (RLim.up (rlim_mk2 (limz_64 (by decide) (by decide)) (limz_64 (by decide) (by decide))) 2 (by decide)) (RLim.up (rlim_mk2 (limz_64 (by decide) (by decide)) (limz_64 (by decide) (by decide))) 2 (by decide)) (by omega) (by omega) (by omega)) rfl rfl
 intro a w3 hF bb hall hne
 replace st:=st.to bb
 obtain⟨vv4,e8,hh5⟩:=sS hall 5 8 rfl rfl
 replace st:=st.add hh5 (Rr.cl _)
 clear hh5
 clear hall hne bb
 obtain⟨b6,ad6,n6,c6,ae6,m6,d6,rfl⟩:=Rr.form (st.f 0 rfl)
 replace hF:=hF.add e8
 clear e8
 refine S.sto st hF 0 rfl (hF.at 1 rfl) (hF.at 0 rfl) ty_RRat rfl rfl rfl rfl fun w7 a st hF=>?_
 refine E.nil ?_
 refine wp_ret ?_
 refine S.ret Tryz.results111 st hF (hF.at 1 rfl) 0 rfl ty_RRat rfl hF.dfr ?_
 have bel:=st.bel
 exact⟨_,rfl,Rr.cast (Rr.up (st.f 0 rfl) _ (by omega)) (by rw[show((4:Int):Rat)/((45:Int):Rat)=msz by decide+kernel];rfl),bel⟩
theorem rPhase12_any (v1:Value) (q1:Rat) (k i:Nat) (w:World) (h1:Rr w v1 q1 k) (li1:RLim q1 i) (hp:1≤k) (hk:k≤20) (hi:i≤3):
 Calls Tryz.prog 70 #[v1] w (RrPost w (phaseV q1) (6*k+22*i+1100)):=by
 obtain⟨b1,ad1,n1,c1,ae1,m1,d1,rfl⟩:=h1.form
 have st:=St.start w
 refine E.enter (nt:=10) (L:=[(0,.agg #[.bool b1,.slice ad1 n1 c1,.slice ae1 m1 d1])]) Tryz.func70 rfl rfl rfl (args_cons (i:=0) rfl args_nil) ?_
 intro a hF
 refine wp_seq ?_
 refine E.seq ?_
 refine S.box st hF (hF.at 0 rfl) rfl rfl fun g1 w1 a st hF=>?_
 refine S.alloc st hF ty_RRat rfl rfl fun g2 w2 a st hF=>?_
 refine E.nil ?_
 refine wp_seq ?_
 refine E.drawn 7 mixed hF [3,4,5,6,7,8,9] [(fun _ v=>v= .agg #[.bool b1,.slice ad1 n1 c1,.slice ae1 m1 d1]),(fun w v=>Rr w v (moonV (q1)) ((3*k+8*i+400))),(fun _ v=>v= .agg #[.bool b1,.slice ad1 n1 c1,.slice ae1 m1 d1]),(fun w v=>Rr w v (sunV (q1)) ((3*k+8*i+400))),(fun w v=>Rr w v ((moonV (q1))-(sunV (q1))) (((3*k+8*i+400)+(3*k+8*i+400)+1))),(fun w v=>Rr w v (((360:Int):Rat)) (2)),(fun w v=>Rr w v (rmod ((moonV (q1))-(sunV (q1))) (((360:Int):Rat))) ((((3*k+8*i+400)+(3*k+8*i+400)+1)+2+((3*i+100)+(3*i+100)+1)+2+3)))] [] (by decide+kernel) (by decide+kernel) rfl rfl rfl ⟨(Mb.eq _),(fun _ _ _ h hb=>h.below hb),(Mb.eq _),(fun _ _ _ h hb=>h.below hb),(fun _ _ _ h hb=>h.below hb),(fun _ _ _ h hb=>h.below hb),(fun _ _ _ h hb=>h.below hb),trivial⟩ trivial ⟨?_,?_,?_,?_,?_,?_,?_,trivial⟩ ?_
 ·intro a' w' hF' hb hd
  exact dv0 (r_load (hF'.at 1 rfl) (ld_all ty_RRat ((st.bk 1 rfl).below hb) rfl)) rfl rfl rfl
 ·intro a' w' hF' hb hd
  have e3:=sHe hd 0 3 rfl rfl rfl rfl
  exact dc0 (r_call Tryz.func111 en111.1 en111.2 (map1 e3)) (rMoon12_any _ (q1) k i _ (h1.below (below_to st.bel hb)) li1 (by omega) (by omega) (by omega)) rfl rfl
 ·intro a' w' hF' hb hd
  exact dv0 (r_load (hF'.at 1 rfl) (ld_all ty_RRat ((st.bk 1 rfl).below hb) rfl)) rfl rfl rfl
 ·intro a' w' hF' hb hd
  have e5:=sHe hd 0 5 rfl rfl rfl rfl
  exact dc0 (r_call Tryz.func112 en112.1 en112.2 (map1 e5)) (rSun12_any _ (q1) k i _ (h1.below (below_to st.bel hb)) li1 (by omega) (by omega) (by omega)) rfl rfl
 ·intro a' w' hF' hb hd
  obtain⟨v4_0,e4,h4_1⟩:=sH hd 0 4 rfl rfl rfl rfl
  obtain⟨v6_0,e6,h6_1⟩:=sH hd 1 6 rfl rfl rfl rfl
  exact dc0 (r_call Tryz.func68 en68.1 en68.2 (map2 e4 e6)) (dSub2_any _ _ _ _ (3*k+8*i+400) (3*k+8*i+400) _ h4_1 h6_1 (by omega) (by omega) (by omega) (by omega)) rfl rfl
 ·intro a' w' hF' hb hd
  exact dc0 (r_call Tryz.func16 en16.1 en16.2 (map2 ev_c ev_c)) (dOf1b_any (360) _ (by decide) (by decide)) rfl rfl
 ·intro a' w' hF' hb hd
  obtain⟨v7_0,e7,h7_1⟩:=sH hd 0 7 rfl rfl rfl rfl
  obtain⟨v8_0,e8,h8_1⟩:=sH hd 1 8 rfl rfl rfl rfl
  exact dc0 (r_call Tryz.func110 en110.1 en110.2 (map2 e7 e8)) (dMod2_any _ _ _ _ ((3*k+8*i+400)+(3*k+8*i+400)+1) 2 ((3*i+100)+(3*i+100)+1) 2 _ h7_1 h8_1 (rlim_sub (moonV_lim li1) (sunV_lim li1)) (lim64 (by decide) (by decide)) (by omega) (by omega) (by omega) (by omega) (by omega) (by omega)) rfl rfl
 intro a w3 hF bb hall hne
 replace st:=st.to bb
 obtain⟨vv4,e9,hh5⟩:=sS hall 6 9 rfl rfl
 replace st:=st.add hh5 (Rr.cl _)
 clear hh5
 clear hall hne bb
 obtain⟨b6,ad6,n6,c6,ae6,m6,d6,rfl⟩:=Rr.form (st.f 0 rfl)
 replace hF:=hF.add e9
 clear e9
 refine S.sto st hF 0 rfl (hF.at 1 rfl) (hF.at 0 rfl) ty_RRat rfl rfl rfl rfl fun w7 a st hF=>?_
 refine E.nil ?_
 refine wp_ret ?_
 refine S.ret Tryz.results70 st hF (hF.at 1 rfl) 0 rfl ty_RRat rfl hF.dfr ?_
 have bel:=st.bel
 exact⟨_,rfl,Rr.cast (Rr.up (st.f 0 rfl) _ (by omega)) rfl,bel⟩
theorem rPart12_any (v1:Value) (q1:Rat) (k i:Nat) (n:Int) (w:World) (h1:Rr w v1 q1 k) (li1:RLim q1 i) (hp:1≤k) (hk:k≤1400) (hi:i≤600) (hn:0<n) (hn2:n≤1000):
 Calls Tryz.prog 113 #[v1,.int .i64 n] w (ValPost w (.int .i64 (prt (rmod q1 ((360:Int):Rat)) n))):=by
 obtain⟨b1,ad1,n1,c1,ae1,m1,d1,rfl⟩:=h1.form
 have st:=St.start w
 refine E.enter (nt:=12) (L:=[(0,.agg #[.bool b1,.slice ad1 n1 c1,.slice ae1 m1 d1]),(1,.int .i64 n)]) Tryz.func113 rfl rfl rfl (args_cons (i:=0) rfl (args_cons (i:=1) rfl args_nil)) ?_
 intro a hF
 refine wp_seq ?_
 refine E.seq ?_
 refine S.box st hF (hF.at 0 rfl) rfl rfl fun g2 w1 a st hF=>?_
 refine E.opv hF (r_assign ev_c) rfl rfl rfl rfl fun a hF=>?_
 refine E.nil ?_
 refine wp_seq ?_
 refine E.drawn 7 mixed hF [5,6,7,8,9,10,11] [(fun _ v=>v= .agg #[.bool b1,.slice ad1 n1 c1,.slice ae1 m1 d1]),(fun w v=>Rr w v (((360:Int):Rat)) (2)),(fun w v=>Rr w v (rmod (q1) (((360:Int):Rat))) ((k+2+i+2+3))),(fun _ v=>v= .int .i64 n),(fun w v=>Rr w v (((n:Int):Rat)/((360:Int):Rat)) (2)),(fun w v=>Rr w v ((rmod (q1) (((360:Int):Rat)))*(((n:Int):Rat)/((360:Int):Rat))) (((k+2+i+2+3)+2))),(fun _ v=>v= .int .i64 (Rat.floor ((rmod (q1) (((360:Int):Rat)))*(((n:Int):Rat)/((360:Int):Rat)))))] [] (by decide+kernel) (by decide+kernel) rfl rfl rfl ⟨(Mb.eq _),(fun _ _ _ h hb=>h.below hb),(fun _ _ _ h hb=>h.below hb),(Mb.eq _),(fun _ _ _ h hb=>h.below hb),(fun _ _ _ h hb=>h.below hb),(Mb.eq _),trivial⟩ trivial ⟨?_,?_,?_,?_,?_,?_,?_,trivial⟩ ?_
 ·intro a' w' hF' hb hd
  exact dv0 (r_load (hF'.at 1 rfl) (ld_all ty_RRat ((st.bk 0 rfl).below hb) rfl)) rfl rfl rfl
 ·intro a' w' hF' hb hd
  exact dc0 (r_call Tryz.func16 en16.1 en16.2 (map2 ev_c ev_c)) (dOf1b_any (360) _ (by decide) (by decide)) rfl rfl
 ·intro a' w' hF' hb hd
  have e5:=sHe hd 0 5 rfl rfl rfl rfl
  obtain⟨v6_0,e6,h6_1⟩:=sH hd 1 6 rfl rfl rfl rfl
  exact dc0 (r_call Tryz.func110 en110.1 en110.2 (map2 e5 e6)) (dMod2_any _ _ (q1) _ k 2 i 2 _ (h1.below (below_to st.bel hb)) h6_1 li1 (lim64 (by decide) (by decide)) (by omega) (by omega) (by omega) (by omega) (by omega) (by omega)) rfl rfl
 ·intro a' w' hF' hb hd
  exact dv0 (r_move (hF'.at 3 rfl)) rfl rfl rfl
 ·intro a' w' hF' hb hd
  have e8:=sHe hd 0 8 rfl rfl rfl rfl
  exact dc0 (r_call Tryz.func16 en16.1 en16.2 (map2 e8 ev_c)) (dOf_any (n) (360) _ (by omega) (by omega) (by decide) (by decide)) rfl rfl
 ·intro a' w' hF' hb hd
  obtain⟨v7_0,e7,h7_1⟩:=sH hd 0 7 rfl rfl rfl rfl
  obtain⟨v9_0,e9,h9_1⟩:=sH hd 1 9 rfl rfl rfl rfl
  exact dc0 (r_call Tryz.func69 en69.1 en69.2 (map2 e7 e9)) (dMul2_any _ _ _ _ (k+2+i+2+3) 2 _ h7_1 h9_1 (by omega) (by omega) (by omega) (by omega)) rfl rfl
 ·intro a' w' hF' hb hd
  obtain⟨v10_0,e10,h10_1⟩:=sH hd 0 10 rfl rfl rfl rfl
  exact dcx0 (r_call Tryz.func67 en67.1 en67.2 (map1 e10)) (rint2_any _ _ ((k+2+i+2+3)+2) _ h10_1 (by omega) (by omega) (prt_s hn hn2).1 (prt_s hn hn2).2) (fun _=>rfl) rfl rfl
 intro a w2 hF bb hall hne
 replace st:=st.to bb
 have e11:=sSe hall 6 11 rfl rfl
 clear hall hne bb
 replace hF:=hF.add e11
 clear e11
 refine E.opset (L':=[(4,.int .i64 (Rat.floor ((rmod (q1) (((360:Int):Rat)))*(((n:Int):Rat)/((360:Int):Rat))))),(11,.int .i64 (Rat.floor ((rmod (q1) (((360:Int):Rat)))*(((n:Int):Rat)/((360:Int):Rat))))),(2,.pointer (some ⟨g2,0,none⟩)),(0,.agg #[.bool b1,.slice ad1 n1 c1,.slice ae1 m1 d1]),(1,.int .i64 n)]) hF (r_assign (hF.at 0 rfl)) rfl rfl rfl rfl fun a hF=>?_
 refine E.nil ?_
 refine wp_ret ?_
 have bel:=st.bel
 refine bodyPost_ret (res_tmp Tryz.results113 (hF.at 0 rfl)) hF.dfr ?_
 exact⟨rfl,bel⟩
theorem rOf12_any (v1:Value) (q1:Rat) (k i:Nat) (w:World) (h1:Rr w v1 q1 k) (li1:RLim q1 i) (hp:1≤k) (hk:k≤20) (hi:i≤3):
 Calls Tryz.prog 71 #[v1] w (ValPost w (.agg #[.int .i64 (prt (sunV q1) 12),.int .i64 (prt (phaseV q1) 30+1),.int .i64 (prt (moonV q1) 27+1),.int .i64 (prt (yogaV q1) 27+1),.int .i64 (prt (phaseV q1) 60+1)])):=by
 obtain⟨b1,ad1,n1,c1,ae1,m1,d1,rfl⟩:=h1.form
 have st:=St.start w
 refine E.enter (nt:=32) (L:=[(0,.agg #[.bool b1,.slice ad1 n1 c1,.slice ae1 m1 d1])]) Tryz.func71 rfl rfl rfl (args_cons (i:=0) rfl args_nil) ?_
 intro a hF
 refine wp_seq ?_
 refine E.seq ?_
 refine S.box st hF (hF.at 0 rfl) rfl rfl fun g1 w1 a st hF=>?_
 refine S.alloc st hF ty_RElem rfl rfl fun g2 w2 a st hF=>?_
 refine E.nil ?_
 refine wp_seq ?_
 refine E.drawn 6 mixed hF [6,7,8,9,3,4] [(fun _ v=>v= .agg #[.bool b1,.slice ad1 n1 c1,.slice ae1 m1 d1]),(fun w v=>Rr w v (sunV (q1)) ((3*k+8*i+400))),(fun _ v=>v= .agg #[.bool b1,.slice ad1 n1 c1,.slice ae1 m1 d1]),(fun w v=>Rr w v (moonV (q1)) ((3*k+8*i+400))),(fun w v=>∃g,v= .pointer (some ⟨g,0,none⟩)∧w2.heap.size≤g∧Own w g [.bool false,.slice none 0 0,.slice none 0 0]),(fun w v=>∃g,v= .pointer (some ⟨g,0,none⟩)∧w2.heap.size≤g∧Own w g [.bool false,.slice none 0 0,.slice none 0 0])] [4,5] (by decide+kernel) (by decide+kernel) rfl rfl rfl ⟨(Mb.eq _),(fun _ _ _ h hb=>h.below hb),(Mb.eq _),(fun _ _ _ h hb=>h.below hb),(fun _ _ _ ⟨g,e,l,o⟩ hb=>⟨g,e,l,o.below hb⟩),(fun _ _ _ ⟨g,e,l,o⟩ hb=>⟨g,e,l,o.below hb⟩),trivial⟩ ⟨fun _ _ ⟨g,e,_,o⟩=>⟨g,e,o.lt⟩,⟨fun _ _ ⟨g,e,_,o⟩=>⟨g,e,o.lt⟩,trivial⟩⟩ ⟨?_,?_,?_,?_,?_,?_,trivial⟩ ?_
 ·intro a' w' hF' hb hd
  exact dv0 (r_load (hF'.at 1 rfl) (ld_all ty_RRat ((st.bk 1 rfl).below hb) rfl)) rfl rfl rfl
 ·intro a' w' hF' hb hd
  have e6:=sHe hd 0 6 rfl rfl rfl rfl
  exact dc0 (r_call Tryz.func112 en112.1 en112.2 (map1 e6)) (rSun12_any _ (q1) k i _ (h1.below (below_to st.bel hb)) li1 (by omega) (by omega) (by omega)) rfl rfl
 ·intro a' w' hF' hb hd
  exact dv0 (r_load (hF'.at 1 rfl) (ld_all ty_RRat ((st.bk 1 rfl).below hb) rfl)) rfl rfl rfl
 ·intro a' w' hF' hb hd
  have e8:=sHe hd 0 8 rfl rfl rfl rfl
  exact dc0 (r_call Tryz.func111 en111.1 en111.2 (map1 e8)) (rMoon12_any _ (q1) k i _ (h1.below (below_to st.bel hb)) li1 (by omega) (by omega) (by omega)) rfl rfl
 ·intro a' w' hF' hb hd
  exact da0 ty_RRat rfl hb.size rfl
 ·intro a' w' hF' hb hd
  exact da0 ty_RRat rfl hb.size rfl
 intro a w3 hF bb hall hne
 have s0:=st
 replace st:=st.to bb
 obtain⟨vv4,e7,hh5⟩:=sS hall 1 7 rfl rfl
 replace st:=st.add hh5 (Rr.cl _)
 clear hh5
 obtain⟨vv6,e9,hh7⟩:=sS hall 3 9 rfl rfl
 replace st:=st.add hh7 (Rr.cl _)
 clear hh7
 obtain⟨_,e3,g3,rfl,ge3,o3⟩:=sS hall 4 3 rfl rfl
 replace st:=st.push o3.blk (Nat.le_trans s0.bel.size ge3) (s0.ne ge3)
 clear o3
 obtain⟨_,e4,g4,rfl,ge4,o4⟩:=sS hall 5 4 rfl rfl
 replace st:=st.push o4.blk (Nat.le_trans s0.bel.size ge4) (ne_cons (fun(e:g3=g4)=>hne 4 5 3 4 rfl rfl (by decide) rfl rfl (by rw[e3,e4,e])) (s0.ne ge4))
 clear o4
 clear hall hne bb s0
 obtain⟨b8,ad8,n8,c8,ae8,m8,d8,rfl⟩:=Rr.form (st.f 1 rfl)
 replace hF:=hF.add e7
 clear e7
 obtain⟨b9,ad9,n9,c9,ae9,m9,d9,rfl⟩:=Rr.form (st.f 0 rfl)
 replace hF:=hF.add e9
 clear e9
 replace hF:=hF.add e3
 clear e3
 replace hF:=hF.add e4
 clear e4
 refine S.sto st hF 1 rfl (hF.at 1 rfl) (hF.at 3 rfl) ty_RRat rfl rfl rfl rfl fun w10 a st hF=>?_
 refine S.sto st hF 0 rfl (hF.at 0 rfl) (hF.at 2 rfl) ty_RRat rfl rfl rfl rfl fun w11 a st hF=>?_
 refine E.nil ?_
 refine wp_seq ?_
 refine E.seq ?_
 refine E.opv hF (r_load (hF.at 0 rfl) (ld_all ty_RRat (st.bk 0 rfl) rfl)) rfl rfl rfl rfl fun a hF=>?_
 refine E.opv hF (r_load (hF.at 2 rfl) (ld_all ty_RRat (st.bk 1 rfl) rfl)) rfl rfl rfl rfl fun a hF=>?_
 refine S.call st hF (r_call Tryz.func68 en68.1 en68.2 (map2 (hF.at 1 rfl) (hF.at 0 rfl))) (dSub2_any _ _ _ _ (3*k+8*i+400) (3*k+8*i+400) _ (st.f 0 rfl) (st.f 1 rfl) (by omega) (by omega) (by omega) (by omega)) (fun _ _ h=>h) Rr.cl rfl rfl rfl rfl fun vv13 w12 a st hF=>?_
 obtain⟨b15,ad15,n15,c15,ae15,m15,d15,rfl⟩:=Rr.form (st.f 0 rfl)
 refine S.call st hF (r_call Tryz.func16 en16.1 en16.2 (map2 ev_c ev_c)) (dOf1b_any (360) _ (by decide) (by decide)) (fun _ _ h=>h) Rr.cl rfl rfl rfl rfl fun vv17 w16 a st hF=>?_
 obtain⟨b19,ad19,n19,c19,ae19,m19,d19,rfl⟩:=Rr.form (st.f 0 rfl)
 refine S.call st hF (r_call Tryz.func110 en110.1 en110.2 (map2 (hF.at 1 rfl) (hF.at 0 rfl))) (dMod2_any _ _ _ _ ((3*k+8*i+400)+(3*k+8*i+400)+1) 2 ((3*i+100)+(3*i+100)+1) 2 _ (st.f 1 rfl) (st.f 0 rfl) (rlim_sub (moonV_lim li1) (sunV_lim li1)) (lim64 (by decide) (by decide)) (by omega) (by omega) (by omega) (by omega) (by omega) (by omega)) (fun _ _ h=>h) Rr.cl rfl rfl rfl rfl fun vv21 w20 a st hF=>?_
 obtain⟨b23,ad23,n23,c23,ae23,m23,d23,rfl⟩:=Rr.form (st.f 0 rfl)
 refine S.new st hF 0 rfl ty_RRat rfl rfl rfl rfl rfl fun g5 w24 a st hF=>?_
 refine E.nil ?_
 refine wp_seq ?_
 refine E.drawn 17 mixed hF [15,16,17,18,19,20,21,22,23,24,25,26,27,28,29,30,31] [(fun _ v=>v= .agg #[.bool b8,.slice ad8 n8 c8,.slice ae8 m8 d8]),(fun _ v=>v= .int .i64 (prt (rmod (sunV (q1)) ((360:Int):Rat)) 12)),(fun _ v=>v= .agg #[.bool b23,.slice ad23 n23 c23,.slice ae23 m23 d23]),(fun _ v=>v= .int .i64 (prt (rmod (phaseV (q1)) ((360:Int):Rat)) 30)),(fun _ v=>v= .int .i64 ((prt (rmod (phaseV (q1)) ((360:Int):Rat)) 30)+1)),(fun _ v=>v= .agg #[.bool b9,.slice ad9 n9 c9,.slice ae9 m9 d9]),(fun _ v=>v= .int .i64 (prt (rmod (moonV (q1)) ((360:Int):Rat)) 27)),(fun _ v=>v= .int .i64 ((prt (rmod (moonV (q1)) ((360:Int):Rat)) 27)+1)),(fun _ v=>v= .agg #[.bool b8,.slice ad8 n8 c8,.slice ae8 m8 d8]),(fun _ v=>v= .agg #[.bool b9,.slice ad9 n9 c9,.slice ae9 m9 d9]),(fun w v=>Rr w v ((sunV (q1))+(moonV (q1))) (((3*k+8*i+400)+(3*k+8*i+400)+1))),(fun _ v=>v= .int .i64 (prt (rmod ((sunV (q1))+(moonV (q1))) ((360:Int):Rat)) 27)),(fun _ v=>v= .int .i64 ((prt (rmod ((sunV (q1))+(moonV (q1))) ((360:Int):Rat)) 27)+1)),(fun _ v=>v= .agg #[.bool b23,.slice ad23 n23 c23,.slice ae23 m23 d23]),(fun _ v=>v= .int .i64 (prt (rmod (phaseV (q1)) ((360:Int):Rat)) 60)),(fun _ v=>v= .int .i64 ((prt (rmod (phaseV (q1)) ((360:Int):Rat)) 60)+1)),(fun _ v=>v= .agg #[.int .i64 (prt (rmod (sunV (q1)) ((360:Int):Rat)) 12),.int .i64 ((prt (rmod (phaseV (q1)) ((360:Int):Rat)) 30)+1),.int .i64 ((prt (rmod (moonV (q1)) ((360:Int):Rat)) 27)+1),.int .i64 ((prt (rmod ((sunV (q1))+(moonV (q1))) ((360:Int):Rat)) 27)+1),.int .i64 ((prt (rmod (phaseV (q1)) ((360:Int):Rat)) 60)+1)])] [] (by decide+kernel) (by decide+kernel) rfl rfl rfl ⟨(Mb.eq _),(Mb.eq _),(Mb.eq _),(Mb.eq _),(Mb.eq _),(Mb.eq _),(Mb.eq _),(Mb.eq _),(Mb.eq _),(Mb.eq _),(fun _ _ _ h hb=>h.below hb),(Mb.eq _),(Mb.eq _),(Mb.eq _),(Mb.eq _),(Mb.eq _),(Mb.eq _),trivial⟩ trivial ⟨?_,?_,?_,?_,?_,?_,?_,?_,?_,?_,?_,?_,?_,?_,?_,?_,?_,trivial⟩ ?_
 ·intro a' w' hF' hb hd
  exact dv0 (r_load (hF'.at 7 rfl) (ld_all ty_RRat ((st.bk 2 rfl).below hb) rfl)) rfl rfl rfl
 ·intro a' w' hF' hb hd
  have e15:=sHe hd 0 15 rfl rfl rfl rfl
  exact dcx0 (r_call Tryz.func113 en113.1 en113.2 (map2 e15 ev_c)) (rPart12_any _ _ (3*k+8*i+400) (3*i+100) 12 _ ((st.f 4 rfl).below hb) (sunV_lim li1) (by omega) (by omega) (by omega) (by omega) (by omega)) (fun _=>rfl) rfl rfl
 ·intro a' w' hF' hb hd
  exact dv0 (r_load (hF'.at 0 rfl) (ld_all ty_RRat ((st.bk 0 rfl).below hb) rfl)) rfl rfl rfl
 ·intro a' w' hF' hb hd
  have e17:=sHe hd 0 17 rfl rfl rfl rfl
  exact dcx0 (r_call Tryz.func113 en113.1 en113.2 (map2 e17 ev_c)) (rPart12_any _ _ (((3*k+8*i+400)+(3*k+8*i+400)+1)+2+((3*i+100)+(3*i+100)+1)+2+3) (((3*i+100)+(3*i+100)+1)+4) 30 _ ((st.f 0 rfl).below hb) (rmod360_lim (rlim_sub (moonV_lim li1) (sunV_lim li1))) (by omega) (by omega) (by omega) (by omega) (by omega)) (fun _=>rfl) rfl rfl
 ·intro a' w' hF' hb hd
  have e18:=sHe hd 0 18 rfl rfl rfl rfl
  have hpt86394:=prt_bd (x:=rmod (phaseV (q1)) ((360:Int):Rat)) (n:=30) (by omega) (rmod_low c360_pos) (rmod_high c360_pos)
  exact dv0 (r_bin e18 ev_c eg_scalar (ia_add (by omega) (by omega))) rfl rfl rfl
 ·intro a' w' hF' hb hd
  exact dv0 (r_load (hF'.at 6 rfl) (ld_all ty_RRat ((st.bk 1 rfl).below hb) rfl)) rfl rfl rfl
 ·intro a' w' hF' hb hd
  have e20:=sHe hd 0 20 rfl rfl rfl rfl
  exact dcx0 (r_call Tryz.func113 en113.1 en113.2 (map2 e20 ev_c)) (rPart12_any _ _ (3*k+8*i+400) (3*i+100) 27 _ ((st.f 3 rfl).below hb) (moonV_lim li1) (by omega) (by omega) (by omega) (by omega) (by omega)) (fun _=>rfl) rfl rfl
 ·intro a' w' hF' hb hd
  have e21:=sHe hd 0 21 rfl rfl rfl rfl
  have hpt74220:=prt_bd (x:=rmod (moonV (q1)) ((360:Int):Rat)) (n:=27) (by omega) (rmod_low c360_pos) (rmod_high c360_pos)
  exact dv0 (r_bin e21 ev_c eg_scalar (ia_add (by omega) (by omega))) rfl rfl rfl
 ·intro a' w' hF' hb hd
  exact dv0 (r_load (hF'.at 7 rfl) (ld_all ty_RRat ((st.bk 2 rfl).below hb) rfl)) rfl rfl rfl
 ·intro a' w' hF' hb hd
  exact dv0 (r_load (hF'.at 6 rfl) (ld_all ty_RRat ((st.bk 1 rfl).below hb) rfl)) rfl rfl rfl
 ·intro a' w' hF' hb hd
  have e23:=sHe hd 0 23 rfl rfl rfl rfl
  have e24:=sHe hd 1 24 rfl rfl rfl rfl
  exact dc0 (r_call Tryz.func35 en35.1 en35.2 (map2 e23 e24)) (dAdd2_any _ _ _ _ (3*k+8*i+400) (3*k+8*i+400) _ ((st.f 4 rfl).below hb) ((st.f 3 rfl).below hb) (by omega) (by omega) (by omega) (by omega)) rfl rfl
 ·intro a' w' hF' hb hd
  obtain⟨v25_0,e25,h25_1⟩:=sH hd 0 25 rfl rfl rfl rfl
  exact dcx0 (r_call Tryz.func113 en113.1 en113.2 (map2 e25 ev_c)) (rPart12_any _ _ ((3*k+8*i+400)+(3*k+8*i+400)+1) ((3*i+100)+(3*i+100)+1) 27 _ h25_1 (rlim_add (sunV_lim li1) (moonV_lim li1)) (by omega) (by omega) (by omega) (by omega) (by omega)) (fun _=>rfl) rfl rfl
 ·intro a' w' hF' hb hd
  have e26:=sHe hd 0 26 rfl rfl rfl rfl
  have hpt25439:=prt_bd (x:=rmod ((sunV (q1))+(moonV (q1))) ((360:Int):Rat)) (n:=27) (by omega) (rmod_low c360_pos) (rmod_high c360_pos)
  exact dv0 (r_bin e26 ev_c eg_scalar (ia_add (by omega) (by omega))) rfl rfl rfl
 ·intro a' w' hF' hb hd
  exact dv0 (r_load (hF'.at 0 rfl) (ld_all ty_RRat ((st.bk 0 rfl).below hb) rfl)) rfl rfl rfl
 ·intro a' w' hF' hb hd
  have e28:=sHe hd 0 28 rfl rfl rfl rfl
  exact dcx0 (r_call Tryz.func113 en113.1 en113.2 (map2 e28 ev_c)) (rPart12_any _ _ (((3*k+8*i+400)+(3*k+8*i+400)+1)+2+((3*i+100)+(3*i+100)+1)+2+3) (((3*i+100)+(3*i+100)+1)+4) 60 _ ((st.f 0 rfl).below hb) (rmod360_lim (rlim_sub (moonV_lim li1) (sunV_lim li1))) (by omega) (by omega) (by omega) (by omega) (by omega)) (fun _=>rfl) rfl rfl
 ·intro a' w' hF' hb hd
  have e29:=sHe hd 0 29 rfl rfl rfl rfl
  have hpt76573:=prt_bd (x:=rmod (phaseV (q1)) ((360:Int):Rat)) (n:=60) (by omega) (rmod_low c360_pos) (rmod_high c360_pos)
  exact dv0 (r_bin e29 ev_c eg_scalar (ia_add (by omega) (by omega))) rfl rfl rfl
 ·intro a' w' hF' hb hd
  have e16:=sHe hd 0 16 rfl rfl rfl rfl
  have hpt29289:=prt_bd (x:=rmod (sunV (q1)) ((360:Int):Rat)) (n:=12) (by omega) (rmod_low c360_pos) (rmod_high c360_pos)
  have e19:=sHe hd 1 19 rfl rfl rfl rfl
  have e22:=sHe hd 2 22 rfl rfl rfl rfl
  have e27:=sHe hd 3 27 rfl rfl rfl rfl
  have e30:=sHe hd 4 30 rfl rfl rfl rfl
  exact dv0 (r_build (pair5 e16 e19 e22 e27 e30) (bd_RElem_01234 _ _ _ _ _ _)) rfl rfl rfl
 intro a w25 hF bb hall hne
 replace st:=st.to bb
 have e31:=sSe hall 16 31 rfl rfl
 clear hall hne bb
 replace hF:=hF.add e31
 clear e31
 refine S.stoI st hF 3 rfl (hF.at 11 rfl) (hF.at 0 rfl) ty_RElem rfl rfl rfl fun w26 a st hF=>?_
 refine E.nil ?_
 refine wp_ret ?_
 refine S.ret Tryz.results71 st hF (hF.at 11 rfl) 3 rfl ty_RElem rfl hF.dfr ?_
 have bel:=st.bel
 refine⟨?_,bel⟩
 simp only [pid_sun,pid_moon,pid_phase,pid_yoga]
end Go.Proofs.YtplngpfpcheofaaGreatDoor
