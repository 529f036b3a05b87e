import Derived.Test.YtplngpfpcheofaaGreatDoorKA33
import Derived.Test.YtplngpfpcheofaaGreatDoorKA37
import Derived.Test.YtplngpfpcheofaaGreatDoorKA40
namespace Go.Proofs.YtplngpfpcheofaaGreatDoor
open Go.RowKit
set_option maxRecDepth 100000
set_option linter.unusedVariables false
set_option maxHeartbeats 8000000
theorem en48:(Tryz.f48.name == "runtime.NumGoroutine")=false∧Tryz.f48.body.isNone=false:=⟨by decide+kernel,by kernel_rfl⟩
theorem en13:(Tryz.f13.name == "runtime.NumGoroutine")=false∧Tryz.f13.body.isNone=false:=⟨by decide+kernel,by kernel_rfl⟩
theorem en23:(Tryz.f23.name == "runtime.NumGoroutine")=false∧Tryz.f23.body.isNone=false:=⟨by decide+kernel,by kernel_rfl⟩
theorem en25:(Tryz.f25.name == "runtime.NumGoroutine")=false∧Tryz.f25.body.isNone=false:=⟨by decide+kernel,by kernel_rfl⟩
theorem en52:(Tryz.f52.name == "runtime.NumGoroutine")=false∧Tryz.f52.body.isNone=false:=⟨by decide+kernel,by kernel_rfl⟩
theorem en26:(Tryz.f26.name == "runtime.NumGoroutine")=false∧Tryz.f26.body.isNone=false:=⟨by decide+kernel,by kernel_rfl⟩
theorem en38:(Tryz.f38.name == "runtime.NumGoroutine")=false∧Tryz.f38.body.isNone=false:=⟨by decide+kernel,by kernel_rfl⟩
theorem en29:(Tryz.f29.name == "runtime.NumGoroutine")=false∧Tryz.f29.body.isNone=false:=⟨by decide+kernel,by kernel_rfl⟩
theorem en17:(Tryz.f17.name == "runtime.NumGoroutine")=false∧Tryz.f17.body.isNone=false:=⟨by decide+kernel,by kernel_rfl⟩
theorem en34:(Tryz.f34.name == "runtime.NumGoroutine")=false∧Tryz.f34.body.isNone=false:=⟨by decide+kernel,by kernel_rfl⟩
theorem rFull15_any (v1:Value) (q1:Rat) (k i:Nat) (w:World) (h1:Rr w v1 q1 k) (li1:RLim q1 i) (hp:1≤k) (hk:k≤20) (hi:i≤3):
 Calls Tryz.prog 48 #[v1] w (ValPost w (.bool (full q1))):=by
 obtain⟨b1,ad1,n1,c1,ae1,m1,d1,rfl⟩:=h1.form
 have st:=St.start w
 refine E.enter (nt:=8) (L:=[(0,.agg #[.bool b1,.slice ad1 n1 c1,.slice ae1 m1 d1])]) Tryz.func48 rfl rfl rfl (args_cons (i:=0) rfl args_nil) ?_
 intro a hF
 refine wp_seq ?_
 refine E.seq ?_
 refine S.box st hF (hF.at 0 rfl) rfl rfl fun g1 w1 a st hF=>?_
 refine E.opv hF (r_assign ev_c) rfl rfl rfl rfl fun a hF=>?_
 refine E.nil ?_
 refine wp_seq ?_
 refine E.seq ?_
 refine E.opv hF (r_load (hF.at 1 rfl) (ld_all ty_RRat (st.bk 0 rfl) rfl)) rfl rfl rfl rfl fun a hF=>?_
 refine S.call st hF (r_call Tryz.func70 en70.1 en70.2 (map1 (hF.at 0 rfl))) (rPhase12_any _ (q1) k i _ (h1.below st.bel) li1 (by omega) (by omega) (by omega)) (fun _ _ h=>h) Rr.cl rfl rfl rfl rfl fun vv3 w2 a st hF=>?_
 obtain⟨b5,ad5,n5,c5,ae5,m5,d5,rfl⟩:=Rr.form (st.f 0 rfl)
 refine S.call st hF (r_call Tryz.func16 en16.1 en16.2 (map2 ev_c ev_c)) (dOf1b_any (180) _ (by decide) (by decide)) (fun _ _ h=>h) Rr.cl rfl rfl rfl rfl fun vv7 w6 a st hF=>?_
 obtain⟨b9,ad9,n9,c9,ae9,m9,d9,rfl⟩:=Rr.form (st.f 0 rfl)
 refine S.callx st hF (r_call Tryz.func86 en86.1 en86.2 (map2 (hF.at 1 rfl) (hF.at 0 rfl))) (dCmp2_any _ _ _ _ (6*k+22*i+1100) 2 _ (st.f 1 rfl) (st.f 0 rfl) (by omega) (by omega)) rfl rfl rfl rfl fun w10 a st hF=>?_
 refine E.opv hF (r_bin (hF.at 0 rfl) ev_c eg_scalar (bi_int (ic_geq (c:=decide (0≤qc (phaseV (q1)) (((180:Int):Rat)))) rfl) (by simp))) rfl rfl rfl rfl fun a hF=>?_
 refine E.opset (L':=[(2,.bool (decide (0≤qc (phaseV (q1)) (((180:Int):Rat))))),(7,.bool (decide (0≤qc (phaseV (q1)) (((180:Int):Rat))))),(6,.int .i64 (qc (phaseV (q1)) (((180:Int):Rat)))),(5,.agg #[.bool b9,.slice ad9 n9 c9,.slice ae9 m9 d9]),(4,.agg #[.bool b5,.slice ad5 n5 c5,.slice ae5 m5 d5]),(3,.agg #[.bool b1,.slice ad1 n1 c1,.slice ae1 m1 d1]),(1,.pointer (some ⟨g1,0,none⟩)),(0,.agg #[.bool b1,.slice ad1 n1 c1,.slice ae1 m1 d1])]) hF (r_assign (hF.at 0 rfl)) rfl rfl rfl rfl fun a hF=>?_
 refine E.nil ?_
 refine wp_ret ?_
 have bel:=st.bel
 refine bodyPost_ret (res_tmp Tryz.results48 (hF.at 0 rfl)) hF.dfr ?_
 exact⟨by rw[full_qc],bel⟩
theorem comes_no {n:Int} (h:¬full ((n:Int):Rat)=true):comes n=false:=by unfold comes;rw[eq_false_of_ne_true h];rfl
theorem comes_yes {n:Int} (h:full ((n:Int):Rat)=true):comes n=!full (((n+1:Int)):Rat):=by unfold comes;rw[h];rfl
theorem now_no {t:Rat} (h:¬full ((t.floor:Int):Rat)=true):¬nowC t=true:=by unfold nowC;rw[eq_false_of_ne_true h];simp
theorem now_no2 {t:Rat} (h:full t=true):¬nowC t=true:=by unfold nowC;rw[h];simp
theorem now_yes {t:Rat} (h:full ((t.floor:Int):Rat)=true) (h2:¬full t=true):nowC t=true:=by unfold nowC;rw[h,eq_false_of_ne_true h2];rfl
theorem rComes15_any (n:Int) (w:World) (hn0: -1000000000≤n) (hn1:n≤1000000000):
 Calls Tryz.prog 13 #[.int .i64 n] w (ValPost w (.bool (comes n))):=by
 have st:=St.start w
 refine E.enter (nt:=13) (L:=[(0,.int .i64 n)]) Tryz.func13 rfl rfl rfl (args_cons (i:=0) rfl args_nil) ?_
 intro a hF
 refine wp_seq ?_
 refine E.seq ?_
 refine E.opv hF (r_assign ev_c) rfl rfl rfl rfl fun a hF=>?_
 refine E.nil ?_
 refine wp_seq ?_
 refine E.seq ?_
 refine E.opv hF (r_move (hF.at 1 rfl)) rfl rfl rfl rfl fun a hF=>?_
 refine S.call st hF (r_call Tryz.func16 en16.1 en16.2 (map2 (hF.at 0 rfl) ev_c)) (dOf1b_any (n) _ (by omega) (by omega)) (fun _ _ h=>h) Rr.cl rfl rfl rfl rfl fun vv2 w1 a st hF=>?_
 obtain⟨b4,ad4,n4,c4,ae4,m4,d4,rfl⟩:=Rr.form (st.f 0 rfl)
 refine S.callx st hF (r_call Tryz.func48 en48.1 en48.2 (map1 (hF.at 0 rfl))) (rFull15_any _ _ 2 2 _ (st.f 0 rfl) (lim64 (by omega) (by omega)) (by omega) (by omega) (by omega)) rfl rfl rfl rfl fun w5 a st hF=>?_
 refine E.opv hF (r_move (hF.at 0 rfl)) rfl rfl rfl rfl fun a hF=>?_
 by_cases hc6:full (((n:Int):Rat))=true
 ·first
  |(exfalso;omega)
  |(refine E.opvg hF (r_move (hF.at 5 rfl)) (wanted_by rfl rfl (Eq.trans (hF.at 0 rfl) (congrArg Value.bool hc6)) rfl) rfl rfl rfl fun a hF=>?_
    refine E.opvg hF (r_bin (hF.at 0 rfl) ev_c eg_scalar (ia_add (by omega) (by omega))) (wanted_by rfl rfl (Eq.trans (hF.at 1 rfl) (congrArg Value.bool hc6)) rfl) rfl rfl rfl fun a hF=>?_
    refine S.callg st hF (wanted_by rfl rfl (Eq.trans (hF.at 2 rfl) (congrArg Value.bool hc6)) rfl) (r_call Tryz.func16 en16.1 en16.2 (map2 (hF.at 0 rfl) ev_c)) (dOf1b_any (n+1) _ (by omega) (by omega)) (fun _ _ h=>h) Rr.cl rfl rfl rfl fun vv8 w7 a st hF=>?_
    obtain⟨b10,ad10,n10,c10,ae10,m10,d10,rfl⟩:=Rr.form (st.f 0 rfl)
    refine S.callxg st hF (wanted_by rfl rfl (Eq.trans (hF.at 3 rfl) (congrArg Value.bool hc6)) rfl) (r_call Tryz.func48 en48.1 en48.2 (map1 (hF.at 0 rfl))) (rFull15_any _ _ 2 2 _ (st.f 0 rfl) (lim64 (by omega) (by omega)) (by omega) (by omega) (by omega)) rfl rfl rfl fun w11 a st hF=>?_
    by_cases hc12:full (((n+1:Int):Rat))=true
    ·first
     |(exfalso;omega)
     |(refine E.opvg hF (r_un (Eq.trans (hF.at 0 rfl) (congrArg Value.bool hc12)) (bn_not _ false rfl)) (wanted_by rfl rfl (Eq.trans (hF.at 4 rfl) (congrArg Value.bool hc6)) rfl) rfl rfl rfl fun a hF=>?_
       refine E.opv hF (r_pick_t (Eq.trans (hF.at 5 rfl) (congrArg Value.bool hc6)) (hF.at 0 rfl)) rfl rfl rfl rfl fun a hF=>?_
       refine E.opset (L':=[(2,.bool false),(12,.bool false),(11,.bool false),(10,.bool (full (((n+1:Int):Rat)))),(9,.agg #[.bool b10,.slice ad10 n10 c10,.slice ae10 m10 d10]),(8,.int .i64 (n+1)),(7,.int .i64 n),(6,.bool (full (((n:Int):Rat)))),(5,.bool (full (((n:Int):Rat)))),(4,.agg #[.bool b4,.slice ad4 n4 c4,.slice ae4 m4 d4]),(3,.int .i64 n),(0,.int .i64 n)]) hF (r_assign (hF.at 0 rfl)) rfl rfl rfl rfl fun a hF=>?_
       refine E.nil ?_
       refine wp_ret ?_
       have bel:=st.bel
       refine bodyPost_ret (res_tmp Tryz.results13 (hF.at 0 rfl)) hF.dfr ?_
       exact⟨by rw[comes_yes hc6,hc12] <;> rfl,bel⟩)
    ·first
     |(exfalso;omega)
     |(refine E.opvg hF (r_un (Eq.trans (hF.at 0 rfl) (congrArg Value.bool (eq_false_of_ne_true hc12))) (bn_not _ true rfl)) (wanted_by rfl rfl (Eq.trans (hF.at 4 rfl) (congrArg Value.bool hc6)) rfl) rfl rfl rfl fun a hF=>?_
       refine E.opv hF (r_pick_t (Eq.trans (hF.at 5 rfl) (congrArg Value.bool hc6)) (hF.at 0 rfl)) rfl rfl rfl rfl fun a hF=>?_
       refine E.opset (L':=[(2,.bool true),(12,.bool true),(11,.bool true),(10,.bool (full (((n+1:Int):Rat)))),(9,.agg #[.bool b10,.slice ad10 n10 c10,.slice ae10 m10 d10]),(8,.int .i64 (n+1)),(7,.int .i64 n),(6,.bool (full (((n:Int):Rat)))),(5,.bool (full (((n:Int):Rat)))),(4,.agg #[.bool b4,.slice ad4 n4 c4,.slice ae4 m4 d4]),(3,.int .i64 n),(0,.int .i64 n)]) hF (r_assign (hF.at 0 rfl)) rfl rfl rfl rfl fun a hF=>?_
       refine E.nil ?_
       refine wp_ret ?_
       have bel:=st.bel
       refine bodyPost_ret (res_tmp Tryz.results13 (hF.at 0 rfl)) hF.dfr ?_
       exact⟨by rw[comes_yes hc6,eq_false_of_ne_true hc12] <;> rfl,bel⟩))
 ·first
  |(exfalso;omega)
  |(refine E.unwanted hF (wanted_by rfl rfl (Eq.trans (hF.at 0 rfl) (congrArg Value.bool (eq_false_of_ne_true hc6))) rfl) rfl rfl rfl fun a hF=>?_
    refine E.unwanted hF (wanted_by rfl rfl (Eq.trans (hF.at 1 rfl) (congrArg Value.bool (eq_false_of_ne_true hc6))) rfl) rfl rfl rfl fun a hF=>?_
    refine E.unwanted hF (wanted_by rfl rfl (Eq.trans (hF.at 2 rfl) (congrArg Value.bool (eq_false_of_ne_true hc6))) rfl) rfl rfl rfl fun a hF=>?_
    refine E.unwanted hF (wanted_by rfl rfl (Eq.trans (hF.at 3 rfl) (congrArg Value.bool (eq_false_of_ne_true hc6))) rfl) rfl rfl rfl fun a hF=>?_
    refine E.unwanted hF (wanted_by rfl rfl (Eq.trans (hF.at 4 rfl) (congrArg Value.bool (eq_false_of_ne_true hc6))) rfl) rfl rfl rfl fun a hF=>?_
    refine E.opv hF (r_pick_f (Eq.trans (hF.at 5 rfl) (congrArg Value.bool (eq_false_of_ne_true hc6))) ev_c) rfl rfl rfl rfl fun a hF=>?_
    refine E.opset (L':=[(2,.bool false),(12,.bool false),(11,undef),(10,undef),(9,undef),(8,undef),(7,undef),(6,.bool (full (((n:Int):Rat)))),(5,.bool (full (((n:Int):Rat)))),(4,.agg #[.bool b4,.slice ad4 n4 c4,.slice ae4 m4 d4]),(3,.int .i64 n),(0,.int .i64 n)]) hF (r_assign (hF.at 0 rfl)) rfl rfl rfl rfl fun a hF=>?_
    refine E.nil ?_
    refine wp_ret ?_
    have bel:=st.bel
    refine bodyPost_ret (res_tmp Tryz.results13 (hF.at 0 rfl)) hF.dfr ?_
    exact⟨by rw[comes_no hc6],bel⟩)
theorem rLast15_any (v1:Value) (q1:Rat) (k i:Nat) (w:World) (h1:Rr w v1 q1 k) (li1:RLim q1 i) (hp:1≤k) (hk:k≤20) (hi:i≤3) (hf0: -900000000≤Rat.floor q1) (hf1:Rat.floor q1≤900000000):
 Calls Tryz.prog 23 #[v1] w (ValPost w (.int .i64 (lastV q1))):=by
 obtain⟨b1,ad1,n1,c1,ae1,m1,d1,rfl⟩:=h1.form
 have st:=St.start w
 refine E.enter (nt:=39) (L:=[(0,.agg #[.bool b1,.slice ad1 n1 c1,.slice ae1 m1 d1])]) Tryz.func23 rfl rfl rfl (args_cons (i:=0) rfl args_nil) ?_
 intro a hF
 refine wp_seq ?_
 refine E.seq ?_
 refine S.box st hF (hF.at 0 rfl) rfl rfl fun g1 w1 a st hF=>?_
 refine E.opv hF (r_assign ev_c) rfl rfl rfl rfl fun a hF=>?_
 refine E.nil ?_
 refine wp_seq ?_
 refine E.seq ?_
 refine E.opv hF (r_load (hF.at 1 rfl) (ld_all ty_RRat (st.bk 0 rfl) rfl)) rfl rfl rfl rfl fun a hF=>?_
 refine S.callx st hF (r_call Tryz.func67 en67.1 en67.2 (map1 (hF.at 0 rfl))) (rint3_any _ (q1) k _ (h1.below st.bel) (by omega) (by omega) (by omega) (by omega)) rfl rfl rfl rfl fun w2 a st hF=>?_
 refine E.opv hF (r_assign (hF.at 0 rfl)) rfl rfl rfl rfl fun a hF=>?_
 refine E.nil ?_
 refine wp_seq ?_
 refine wp_seq ?_
 refine E.seq ?_
 refine E.opv hF (r_move (hF.at 0 rfl)) rfl rfl rfl rfl fun a hF=>?_
 refine S.call st hF (r_call Tryz.func16 en16.1 en16.2 (map2 (hF.at 0 rfl) ev_c)) (dOf1b_any (Rat.floor (q1)) _ (by omega) (by omega)) (fun _ _ h=>h) Rr.cl rfl rfl rfl rfl fun vv4 w3 a st hF=>?_
 obtain⟨b6,ad6,n6,c6,ae6,m6,d6,rfl⟩:=Rr.form (st.f 0 rfl)
 refine S.callx st hF (r_call Tryz.func48 en48.1 en48.2 (map1 (hF.at 0 rfl))) (rFull15_any _ _ 2 2 _ (st.f 0 rfl) (lim64 (by omega) (by omega)) (by omega) (by omega) (by omega)) rfl rfl rfl rfl fun w7 a st hF=>?_
 refine E.opv hF (r_move (hF.at 0 rfl)) rfl rfl rfl rfl fun a hF=>?_
 by_cases hc8:full (((Rat.floor (q1):Int):Rat))=true
 ·first
  |(exfalso;omega)
  |(refine E.opvg hF (r_load (hF.at 8 rfl) (ld_all ty_RRat (st.bk 0 rfl) rfl)) (wanted_by rfl rfl (Eq.trans (hF.at 0 rfl) (congrArg Value.bool hc8)) rfl) rfl rfl rfl fun a hF=>?_
    refine S.callxg st hF (wanted_by rfl rfl (Eq.trans (hF.at 1 rfl) (congrArg Value.bool hc8)) rfl) (r_call Tryz.func48 en48.1 en48.2 (map1 (hF.at 0 rfl))) (rFull15_any _ (q1) k i _ (h1.below st.bel) li1 (by omega) (by omega) (by omega)) rfl rfl rfl fun w9 a st hF=>?_
    by_cases hc10:full (q1)=true
    ·first
     |(exfalso;omega)
     |(refine E.opvg hF (r_un (Eq.trans (hF.at 0 rfl) (congrArg Value.bool hc10)) (bn_not _ false rfl)) (wanted_by rfl rfl (Eq.trans (hF.at 2 rfl) (congrArg Value.bool hc8)) rfl) rfl rfl rfl fun a hF=>?_
       refine E.opv hF (r_pick_t (Eq.trans (hF.at 3 rfl) (congrArg Value.bool hc8)) (hF.at 0 rfl)) rfl rfl rfl rfl fun a hF=>?_
       refine E.nil ?_
       refine wp_cond_false (hF.at 0 rfl) ?_
       refine wp_skip ?_
       refine E.norm ?_
       refine wp_seq ?_
       refine E.drawn 11 mixed hF [17,18,19,20,21,22,23,24,25,26,4] [(fun _ v=>v= .int .i64 (Rat.floor (q1))),(fun _ v=>v= .int .i64 ((Rat.floor (q1))-1)),(fun _ v=>v= .agg #[.bool b1,.slice ad1 n1 c1,.slice ae1 m1 d1]),(fun _ v=>v= .agg #[.bool b1,.slice ad1 n1 c1,.slice ae1 m1 d1]),(fun w v=>Rr w v (phaseV (q1)) ((6*k+22*i+1100))),(fun w v=>Rr w v (((10:Int):Rat)/((135:Int):Rat)) (2)),(fun w v=>Rr w v ((phaseV (q1))*(((10:Int):Rat)/((135:Int):Rat))) (((6*k+22*i+1100)+2))),(fun w v=>Rr w v ((q1)-((phaseV (q1))*(((10:Int):Rat)/((135:Int):Rat)))) ((k+((6*k+22*i+1100)+2)+1))),(fun _ v=>v= .int .i64 (Rat.floor ((q1)-((phaseV (q1))*(((10:Int):Rat)/((135:Int):Rat)))))),(fun _ v=>v= .int .i64 (min ((Rat.floor (q1))-1) (Rat.floor ((q1)-((phaseV (q1))*(((10:Int):Rat)/((135:Int):Rat))))))),(fun _ v=>v= .int .i64 (min ((Rat.floor (q1))-1) (Rat.floor ((q1)-((phaseV (q1))*(((10:Int):Rat)/((135:Int):Rat)))))))] [] (by decide+kernel) (by decide+kernel) rfl rfl rfl ⟨(Mb.eq _),(Mb.eq _),(Mb.eq _),(Mb.eq _),(fun _ _ _ h hb=>h.below hb),(fun _ _ _ h hb=>h.below hb),(fun _ _ _ h hb=>h.below hb),(fun _ _ _ h hb=>h.below hb),(Mb.eq _),(Mb.eq _),(Mb.eq _),trivial⟩ trivial ⟨?_,?_,?_,?_,?_,?_,?_,?_,?_,?_,?_,trivial⟩ ?_
       ·intro a' w' hF' hb hd
        exact dv0 (r_move (hF'.at 8 rfl)) rfl rfl rfl
       ·intro a' w' hF' hb hd
        have e17:=sHe hd 0 17 rfl rfl rfl rfl
        exact dv0 (r_bin e17 ev_c eg_scalar (ia_sub (by omega) (by omega))) rfl rfl rfl
       ·intro a' w' hF' hb hd
        exact dv0 (r_load (hF'.at 12 rfl) (ld_all ty_RRat ((st.bk 0 rfl).below hb) rfl)) rfl rfl rfl
       ·intro a' w' hF' hb hd
        exact dv0 (r_load (hF'.at 12 rfl) (ld_all ty_RRat ((st.bk 0 rfl).below hb) rfl)) rfl rfl rfl
       ·intro a' w' hF' hb hd
        have e20:=sHe hd 0 20 rfl rfl rfl rfl
        exact dc0 (r_call Tryz.func70 en70.1 en70.2 (map1 e20)) (rPhase12_any _ (q1) k i _ (h1.below (below_to st.bel hb)) li1 (by omega) (by omega) (by omega)) rfl rfl
       ·intro a' w' hF' hb hd
        exact dc0 (r_call Tryz.func16 en16.1 en16.2 (map2 ev_c ev_c)) (dOf_any (10) (135) _ (by decide) (by decide) (by decide) (by decide)) rfl rfl
       ·intro a' w' hF' hb hd
        obtain⟨v21_0,e21,h21_1⟩:=sH hd 0 21 rfl rfl rfl rfl
        obtain⟨v22_0,e22,h22_1⟩:=sH hd 1 22 rfl rfl rfl rfl
        exact dc0 (r_call Tryz.func69 en69.1 en69.2 (map2 e21 e22)) (dMul2_any _ _ _ _ (6*k+22*i+1100) 2 _ h21_1 h22_1 (by omega) (by omega) (by omega) (by omega)) rfl rfl
       ·intro a' w' hF' hb hd
        have e19:=sHe hd 0 19 rfl rfl rfl rfl
        obtain⟨v23_0,e23,h23_1⟩:=sH hd 1 23 rfl rfl rfl rfl
        exact dc0 (r_call Tryz.func68 en68.1 en68.2 (map2 e19 e23)) (dSub2_any _ _ (q1) _ k ((6*k+22*i+1100)+2) _ (h1.below (below_to st.bel hb)) h23_1 (by omega) (by omega) (by omega) (by omega)) rfl rfl
       ·intro a' w' hF' hb hd
        obtain⟨v24_0,e24,h24_1⟩:=sH hd 0 24 rfl rfl rfl rfl
        exact dcx0 (r_call Tryz.func67 en67.1 en67.2 (map1 e24)) (rint3_any _ _ (k+((6*k+22*i+1100)+2)+1) _ h24_1 (by omega) (by omega) (by have:=lastX_bd q1;omega) (by have:=lastX_bd q1;omega)) (fun _=>rfl) rfl rfl
       ·intro a' w' hF' hb hd
        have e18:=sHe hd 0 18 rfl rfl rfl rfl
        have e25:=sHe hd 1 25 rfl rfl rfl rfl
        exact dv0 (r_builtin (map2 e18 e25) bl_min) rfl rfl rfl
       ·intro a' w' hF' hb hd
        have e26:=sHe hd 0 26 rfl rfl rfl rfl
        exact dv0 (r_assign e26) rfl rfl rfl
       intro a w11 hF bb hall hne
       replace st:=st.to bb
       have e4:=sSe hall 10 4 rfl rfl
       clear hall hne bb
       replace hF:=hF.add e4
       clear e4
       refine E.nil ?_
       refine wp_seq ?_
       refine wp_seq ?_
       refine E.seq ?_
       refine E.opv hF (r_assign ev_c) rfl rfl rfl rfl fun a hF=>?_
       refine E.nil ?_
       refine wp_block ?_
       refine E.loop (fun mq a wv=>∃(j:Int) (m:Int),0≤m∧j=lastN q1-m∧lastD (Rat.floor q1)≤j∧¬nowC q1=true∧Fr 39 a [(5,.int .i64 m),(4,.int .i64 j),(2,.int .i64 0)]∧St w wv [] []∧mq=(40-m:Int).toNat) ((40-0:Int).toNat) ?_ ?_
       ·exact⟨(min ((Rat.floor (q1))-1) (Rat.floor ((q1)-((phaseV (q1))*(((10:Int):Rat)/((135:Int):Rat)))))),0,(Int.le_refl _),(show _=lastN q1-0 from(Int.sub_zero _).symm),(lastN_bd (now_no2 hc10)).1,(now_no2 hc10),Fr.pick (L':=[(5,.int .i64 0),(4,.int .i64 (min ((Rat.floor (q1))-1) (Rat.floor ((q1)-((phaseV (q1))*(((10:Int):Rat)/((135:Int):Rat))))))),(2,.int .i64 0)]) hF [0,1,13] rfl,st.pick [] [] rfl rfl (by decide),rfl⟩
       ·rintro mq a w12 ⟨j,m,hm0,hj,hL,hno,hF,st,hm⟩
        have hlb:=lastN_bd hno
        refine wp_seq ?_
        refine wp_seq ?_
        refine E.seq ?_
        refine E.opv hF (r_move (hF.at 0 rfl)) rfl rfl rfl rfl fun a hF=>?_
        refine E.opv hF (r_bin (hF.at 0 rfl) ev_c eg_scalar (bi_int (ic_lss (c:=true) (dec_tt (by omega))) (by simp))) rfl rfl rfl rfl fun a hF=>?_
        refine E.opv hF (r_move (hF.at 0 rfl)) rfl rfl rfl rfl fun a hF=>?_
        refine E.opvg hF (r_move (hF.at 4 rfl)) (wanted_by rfl rfl (hF.at 0 rfl) rfl) rfl rfl rfl fun a hF=>?_
        refine S.callxg st hF (wanted_by rfl rfl (hF.at 1 rfl) rfl) (r_call Tryz.func13 en13.1 en13.2 (map1 (hF.at 0 rfl))) (rComes15_any j _ (by omega) (by omega)) rfl rfl rfl fun w13 a st hF=>?_
        by_cases hc14:comes j=true
        ·first
         |(exfalso;omega)
         |(refine E.opvg hF (r_un (Eq.trans (hF.at 0 rfl) (congrArg Value.bool hc14)) (bn_not _ false rfl)) (wanted_by rfl rfl (hF.at 2 rfl) rfl) rfl rfl rfl fun a hF=>?_
           refine E.opv hF (r_pick_t (hF.at 3 rfl) (hF.at 0 rfl)) rfl rfl rfl rfl fun a hF=>?_
           refine E.nil ?_
           refine wp_cond_false (hF.at 0 rfl) ?_
           refine wp_exit ?_
           refine E.past ?_
           refine E.past ?_
           refine E.out (id:=0) ?_
           refine E.norm ?_
           refine wp_seq ?_
           refine E.seq ?_
           refine E.opv hF (r_move (hF.at 8 rfl)) rfl rfl rfl rfl fun a hF=>?_
           refine E.opset (L':=[(2,.int .i64 j),(38,.int .i64 j),(33,.bool false),(32,.bool false),(31,.bool (comes j)),(30,.int .i64 j),(29,.bool true),(28,.bool true),(27,.int .i64 m),(5,.int .i64 m),(4,.int .i64 j)]) hF (r_assign (hF.at 0 rfl)) rfl rfl rfl rfl fun a hF=>?_
           refine E.nil ?_
           refine wp_ret ?_
           have bel:=st.bel
           refine bodyPost_ret (res_tmp Tryz.results23 (hF.at 0 rfl)) hF.dfr ?_
           exact⟨rv_int (by rw[lastV_no hno];exact lastD_is hL (by omega) hc14),bel⟩)
        ·first
         |(exfalso;omega)
         |(refine E.opvg hF (r_un (Eq.trans (hF.at 0 rfl) (congrArg Value.bool (eq_false_of_ne_true hc14))) (bn_not _ true rfl)) (wanted_by rfl rfl (hF.at 2 rfl) rfl) rfl rfl rfl fun a hF=>?_
           refine E.opv hF (r_pick_t (hF.at 3 rfl) (hF.at 0 rfl)) rfl rfl rfl rfl fun a hF=>?_
           refine E.nil ?_
           refine wp_cond_true (hF.at 0 rfl) ?_
           refine wp_skip ?_
           refine E.norm ?_
           refine wp_seq ?_
           refine wp_block ?_
           refine E.seq ?_
           refine E.opv hF (r_move (hF.at 8 rfl)) rfl rfl rfl rfl fun a hF=>?_
           refine E.opv hF (r_bin (hF.at 0 rfl) ev_c eg_scalar (ia_sub (by omega) (by omega))) rfl rfl rfl rfl fun a hF=>?_
           refine E.opset (L':=[(4,.int .i64 (j-1)),(37,.int .i64 (j-1)),(36,.int .i64 j),(33,.bool true),(32,.bool true),(31,.bool (comes j)),(30,.int .i64 j),(29,.bool true),(28,.bool true),(27,.int .i64 m),(5,.int .i64 m),(2,.int .i64 0)]) hF (r_assign (hF.at 0 rfl)) rfl rfl rfl rfl fun a hF=>?_
           refine E.nil0 ?_
           refine E.blk ?_
           refine E.norm ?_
           refine E.seq ?_
           refine E.opv hF (r_move (hF.at 10 rfl)) rfl rfl rfl rfl fun a hF=>?_
           refine E.opv hF (r_bin (hF.at 0 rfl) ev_c eg_scalar (ia_add (by omega) (by omega))) rfl rfl rfl rfl fun a hF=>?_
           refine E.opset (L':=[(5,.int .i64 (m+1)),(35,.int .i64 (m+1)),(34,.int .i64 m),(4,.int .i64 (j-1)),(37,.int .i64 (j-1)),(36,.int .i64 j),(33,.bool true),(32,.bool true),(31,.bool (comes j)),(30,.int .i64 j),(29,.bool true),(28,.bool true),(27,.int .i64 m),(2,.int .i64 0)]) hF (r_assign (hF.at 0 rfl)) rfl rfl rfl rfl fun a hF=>?_
           refine E.nil0 ?_
           refine E.norm ?_
           exact⟨(40-(m+1):Int).toNat,by omega,⟨(j-1),(m+1),(by omega),(by omega),(by have:=lastD_no hL hc14;omega),hno,Fr.pick (L':=[(5,.int .i64 (m+1)),(4,.int .i64 (j-1)),(2,.int .i64 0)]) hF [0,3,13] rfl,st.pick [] [] rfl rfl (by decide),rfl⟩⟩))
    ·first
     |(exfalso;omega)
     |(refine E.opvg hF (r_un (Eq.trans (hF.at 0 rfl) (congrArg Value.bool (eq_false_of_ne_true hc10))) (bn_not _ true rfl)) (wanted_by rfl rfl (Eq.trans (hF.at 2 rfl) (congrArg Value.bool hc8)) rfl) rfl rfl rfl fun a hF=>?_
       refine E.opv hF (r_pick_t (Eq.trans (hF.at 3 rfl) (congrArg Value.bool hc8)) (hF.at 0 rfl)) rfl rfl rfl rfl fun a hF=>?_
       refine E.nil ?_
       refine wp_cond_true (hF.at 0 rfl) ?_
       refine wp_seq ?_
       refine E.seq ?_
       refine E.opv hF (r_move (hF.at 8 rfl)) rfl rfl rfl rfl fun a hF=>?_
       refine E.opset (L':=[(2,.int .i64 (Rat.floor (q1))),(16,.int .i64 (Rat.floor (q1))),(15,.bool true),(14,.bool true),(13,.bool (full (q1))),(12,.agg #[.bool b1,.slice ad1 n1 c1,.slice ae1 m1 d1]),(11,.bool (full (((Rat.floor (q1):Int):Rat)))),(10,.bool (full (((Rat.floor (q1):Int):Rat)))),(9,.agg #[.bool b6,.slice ad6 n6 c6,.slice ae6 m6 d6]),(8,.int .i64 (Rat.floor (q1))),(3,.int .i64 (Rat.floor (q1))),(7,.int .i64 (Rat.floor (q1))),(6,.agg #[.bool b1,.slice ad1 n1 c1,.slice ae1 m1 d1]),(1,.pointer (some ⟨g1,0,none⟩)),(0,.agg #[.bool b1,.slice ad1 n1 c1,.slice ae1 m1 d1])]) hF (r_assign (hF.at 0 rfl)) rfl rfl rfl rfl fun a hF=>?_
       refine E.nil ?_
       refine wp_ret ?_
       have bel:=st.bel
       refine bodyPost_ret (res_tmp Tryz.results23 (hF.at 0 rfl)) hF.dfr ?_
       exact⟨rv_int (lastV_yes (now_yes hc8 hc10)).symm,bel⟩))
 ·first
  |(exfalso;omega)
  |(refine E.unwanted hF (wanted_by rfl rfl (Eq.trans (hF.at 0 rfl) (congrArg Value.bool (eq_false_of_ne_true hc8))) rfl) rfl rfl rfl fun a hF=>?_
    refine E.unwanted hF (wanted_by rfl rfl (Eq.trans (hF.at 1 rfl) (congrArg Value.bool (eq_false_of_ne_true hc8))) rfl) rfl rfl rfl fun a hF=>?_
    refine E.unwanted hF (wanted_by rfl rfl (Eq.trans (hF.at 2 rfl) (congrArg Value.bool (eq_false_of_ne_true hc8))) rfl) rfl rfl rfl fun a hF=>?_
    refine E.opv hF (r_pick_f (Eq.trans (hF.at 3 rfl) (congrArg Value.bool (eq_false_of_ne_true hc8))) ev_c) rfl rfl rfl rfl fun a hF=>?_
    refine E.nil ?_
    refine wp_cond_false (hF.at 0 rfl) ?_
    refine wp_skip ?_
    refine E.norm ?_
    refine wp_seq ?_
    refine E.drawn 11 mixed hF [17,18,19,20,21,22,23,24,25,26,4] [(fun _ v=>v= .int .i64 (Rat.floor (q1))),(fun _ v=>v= .int .i64 ((Rat.floor (q1))-1)),(fun _ v=>v= .agg #[.bool b1,.slice ad1 n1 c1,.slice ae1 m1 d1]),(fun _ v=>v= .agg #[.bool b1,.slice ad1 n1 c1,.slice ae1 m1 d1]),(fun w v=>Rr w v (phaseV (q1)) ((6*k+22*i+1100))),(fun w v=>Rr w v (((10:Int):Rat)/((135:Int):Rat)) (2)),(fun w v=>Rr w v ((phaseV (q1))*(((10:Int):Rat)/((135:Int):Rat))) (((6*k+22*i+1100)+2))),(fun w v=>Rr w v ((q1)-((phaseV (q1))*(((10:Int):Rat)/((135:Int):Rat)))) ((k+((6*k+22*i+1100)+2)+1))),(fun _ v=>v= .int .i64 (Rat.floor ((q1)-((phaseV (q1))*(((10:Int):Rat)/((135:Int):Rat)))))),(fun _ v=>v= .int .i64 (min ((Rat.floor (q1))-1) (Rat.floor ((q1)-((phaseV (q1))*(((10:Int):Rat)/((135:Int):Rat))))))),(fun _ v=>v= .int .i64 (min ((Rat.floor (q1))-1) (Rat.floor ((q1)-((phaseV (q1))*(((10:Int):Rat)/((135:Int):Rat)))))))] [] (by decide+kernel) (by decide+kernel) rfl rfl rfl ⟨(Mb.eq _),(Mb.eq _),(Mb.eq _),(Mb.eq _),(fun _ _ _ h hb=>h.below hb),(fun _ _ _ h hb=>h.below hb),(fun _ _ _ h hb=>h.below hb),(fun _ _ _ h hb=>h.below hb),(Mb.eq _),(Mb.eq _),(Mb.eq _),trivial⟩ trivial ⟨?_,?_,?_,?_,?_,?_,?_,?_,?_,?_,?_,trivial⟩ ?_
    ·intro a' w' hF' hb hd
     exact dv0 (r_move (hF'.at 8 rfl)) rfl rfl rfl
    ·intro a' w' hF' hb hd
     have e17:=sHe hd 0 17 rfl rfl rfl rfl
     exact dv0 (r_bin e17 ev_c eg_scalar (ia_sub (by omega) (by omega))) rfl rfl rfl
    ·intro a' w' hF' hb hd
     exact dv0 (r_load (hF'.at 12 rfl) (ld_all ty_RRat ((st.bk 0 rfl).below hb) rfl)) rfl rfl rfl
    ·intro a' w' hF' hb hd
     exact dv0 (r_load (hF'.at 12 rfl) (ld_all ty_RRat ((st.bk 0 rfl).below hb) rfl)) rfl rfl rfl
    ·intro a' w' hF' hb hd
     have e20:=sHe hd 0 20 rfl rfl rfl rfl
     exact dc0 (r_call Tryz.func70 en70.1 en70.2 (map1 e20)) (rPhase12_any _ (q1) k i _ (h1.below (below_to st.bel hb)) li1 (by omega) (by omega) (by omega)) rfl rfl
    ·intro a' w' hF' hb hd
     exact dc0 (r_call Tryz.func16 en16.1 en16.2 (map2 ev_c ev_c)) (dOf_any (10) (135) _ (by decide) (by decide) (by decide) (by decide)) rfl rfl
    ·intro a' w' hF' hb hd
     obtain⟨v21_0,e21,h21_1⟩:=sH hd 0 21 rfl rfl rfl rfl
     obtain⟨v22_0,e22,h22_1⟩:=sH hd 1 22 rfl rfl rfl rfl
     exact dc0 (r_call Tryz.func69 en69.1 en69.2 (map2 e21 e22)) (dMul2_any _ _ _ _ (6*k+22*i+1100) 2 _ h21_1 h22_1 (by omega) (by omega) (by omega) (by omega)) rfl rfl
    ·intro a' w' hF' hb hd
     have e19:=sHe hd 0 19 rfl rfl rfl rfl
     obtain⟨v23_0,e23,h23_1⟩:=sH hd 1 23 rfl rfl rfl rfl
     exact dc0 (r_call Tryz.func68 en68.1 en68.2 (map2 e19 e23)) (dSub2_any _ _ (q1) _ k ((6*k+22*i+1100)+2) _ (h1.below (below_to st.bel hb)) h23_1 (by omega) (by omega) (by omega) (by omega)) rfl rfl
    ·intro a' w' hF' hb hd
     obtain⟨v24_0,e24,h24_1⟩:=sH hd 0 24 rfl rfl rfl rfl
     exact dcx0 (r_call Tryz.func67 en67.1 en67.2 (map1 e24)) (rint3_any _ _ (k+((6*k+22*i+1100)+2)+1) _ h24_1 (by omega) (by omega) (by have:=lastX_bd q1;omega) (by have:=lastX_bd q1;omega)) (fun _=>rfl) rfl rfl
    ·intro a' w' hF' hb hd
     have e18:=sHe hd 0 18 rfl rfl rfl rfl
     have e25:=sHe hd 1 25 rfl rfl rfl rfl
     exact dv0 (r_builtin (map2 e18 e25) bl_min) rfl rfl rfl
    ·intro a' w' hF' hb hd
     have e26:=sHe hd 0 26 rfl rfl rfl rfl
     exact dv0 (r_assign e26) rfl rfl rfl
    intro a w15 hF bb hall hne
    replace st:=st.to bb
    have e4:=sSe hall 10 4 rfl rfl
    clear hall hne bb
    replace hF:=hF.add e4
    clear e4
    refine E.nil ?_
    refine wp_seq ?_
    refine wp_seq ?_
    refine E.seq ?_
    refine E.opv hF (r_assign ev_c) rfl rfl rfl rfl fun a hF=>?_
    refine E.nil ?_
    refine wp_block ?_
    refine E.loop (fun mq a wv=>∃(j:Int) (m:Int),0≤m∧j=lastN q1-m∧lastD (Rat.floor q1)≤j∧¬nowC q1=true∧Fr 39 a [(5,.int .i64 m),(4,.int .i64 j),(2,.int .i64 0)]∧St w wv [] []∧mq=(40-m:Int).toNat) ((40-0:Int).toNat) ?_ ?_
    ·exact⟨(min ((Rat.floor (q1))-1) (Rat.floor ((q1)-((phaseV (q1))*(((10:Int):Rat)/((135:Int):Rat)))))),0,(Int.le_refl _),(show _=lastN q1-0 from(Int.sub_zero _).symm),(lastN_bd (now_no hc8)).1,(now_no hc8),Fr.pick (L':=[(5,.int .i64 0),(4,.int .i64 (min ((Rat.floor (q1))-1) (Rat.floor ((q1)-((phaseV (q1))*(((10:Int):Rat)/((135:Int):Rat))))))),(2,.int .i64 0)]) hF [0,1,13] rfl,st.pick [] [] rfl rfl (by decide),rfl⟩
    ·rintro mq a w16 ⟨j,m,hm0,hj,hL,hno,hF,st,hm⟩
     have hlb:=lastN_bd hno
     refine wp_seq ?_
     refine wp_seq ?_
     refine E.seq ?_
     refine E.opv hF (r_move (hF.at 0 rfl)) rfl rfl rfl rfl fun a hF=>?_
     refine E.opv hF (r_bin (hF.at 0 rfl) ev_c eg_scalar (bi_int (ic_lss (c:=true) (dec_tt (by omega))) (by simp))) rfl rfl rfl rfl fun a hF=>?_
     refine E.opv hF (r_move (hF.at 0 rfl)) rfl rfl rfl rfl fun a hF=>?_
     refine E.opvg hF (r_move (hF.at 4 rfl)) (wanted_by rfl rfl (hF.at 0 rfl) rfl) rfl rfl rfl fun a hF=>?_
     refine S.callxg st hF (wanted_by rfl rfl (hF.at 1 rfl) rfl) (r_call Tryz.func13 en13.1 en13.2 (map1 (hF.at 0 rfl))) (rComes15_any j _ (by omega) (by omega)) rfl rfl rfl fun w17 a st hF=>?_
     by_cases hc18:comes j=true
     ·first
      |(exfalso;omega)
      |(refine E.opvg hF (r_un (Eq.trans (hF.at 0 rfl) (congrArg Value.bool hc18)) (bn_not _ false rfl)) (wanted_by rfl rfl (hF.at 2 rfl) rfl) rfl rfl rfl fun a hF=>?_
        refine E.opv hF (r_pick_t (hF.at 3 rfl) (hF.at 0 rfl)) rfl rfl rfl rfl fun a hF=>?_
        refine E.nil ?_
        refine wp_cond_false (hF.at 0 rfl) ?_
        refine wp_exit ?_
        refine E.past ?_
        refine E.past ?_
        refine E.out (id:=0) ?_
        refine E.norm ?_
        refine wp_seq ?_
        refine E.seq ?_
        refine E.opv hF (r_move (hF.at 8 rfl)) rfl rfl rfl rfl fun a hF=>?_
        refine E.opset (L':=[(2,.int .i64 j),(38,.int .i64 j),(33,.bool false),(32,.bool false),(31,.bool (comes j)),(30,.int .i64 j),(29,.bool true),(28,.bool true),(27,.int .i64 m),(5,.int .i64 m),(4,.int .i64 j)]) hF (r_assign (hF.at 0 rfl)) rfl rfl rfl rfl fun a hF=>?_
        refine E.nil ?_
        refine wp_ret ?_
        have bel:=st.bel
        refine bodyPost_ret (res_tmp Tryz.results23 (hF.at 0 rfl)) hF.dfr ?_
        exact⟨rv_int (by rw[lastV_no hno];exact lastD_is hL (by omega) hc18),bel⟩)
     ·first
      |(exfalso;omega)
      |(refine E.opvg hF (r_un (Eq.trans (hF.at 0 rfl) (congrArg Value.bool (eq_false_of_ne_true hc18))) (bn_not _ true rfl)) (wanted_by rfl rfl (hF.at 2 rfl) rfl) rfl rfl rfl fun a hF=>?_
        refine E.opv hF (r_pick_t (hF.at 3 rfl) (hF.at 0 rfl)) rfl rfl rfl rfl fun a hF=>?_
        refine E.nil ?_
        refine wp_cond_true (hF.at 0 rfl) ?_
        refine wp_skip ?_
        refine E.norm ?_
        refine wp_seq ?_
        refine wp_block ?_
        refine E.seq ?_
        refine E.opv hF (r_move (hF.at 8 rfl)) rfl rfl rfl rfl fun a hF=>?_
        refine E.opv hF (r_bin (hF.at 0 rfl) ev_c eg_scalar (ia_sub (by omega) (by omega))) rfl rfl rfl rfl fun a hF=>?_
        refine E.opset (L':=[(4,.int .i64 (j-1)),(37,.int .i64 (j-1)),(36,.int .i64 j),(33,.bool true),(32,.bool true),(31,.bool (comes j)),(30,.int .i64 j),(29,.bool true),(28,.bool true),(27,.int .i64 m),(5,.int .i64 m),(2,.int .i64 0)]) hF (r_assign (hF.at 0 rfl)) rfl rfl rfl rfl fun a hF=>?_
        refine E.nil0 ?_
        refine E.blk ?_
        refine E.norm ?_
        refine E.seq ?_
        refine E.opv hF (r_move (hF.at 10 rfl)) rfl rfl rfl rfl fun a hF=>?_
        refine E.opv hF (r_bin (hF.at 0 rfl) ev_c eg_scalar (ia_add (by omega) (by omega))) rfl rfl rfl rfl fun a hF=>?_
        refine E.opset (L':=[(5,.int .i64 (m+1)),(35,.int .i64 (m+1)),(34,.int .i64 m),(4,.int .i64 (j-1)),(37,.int .i64 (j-1)),(36,.int .i64 j),(33,.bool true),(32,.bool true),(31,.bool (comes j)),(30,.int .i64 j),(29,.bool true),(28,.bool true),(27,.int .i64 m),(2,.int .i64 0)]) hF (r_assign (hF.at 0 rfl)) rfl rfl rfl rfl fun a hF=>?_
        refine E.nil0 ?_
        refine E.norm ?_
        exact⟨(40-(m+1):Int).toNat,by omega,⟨(j-1),(m+1),(by omega),(by omega),(by have:=lastD_no hL hc18;omega),hno,Fr.pick (L':=[(5,.int .i64 (m+1)),(4,.int .i64 (j-1)),(2,.int .i64 0)]) hF [0,3,13] rfl,st.pick [] [] rfl rfl (by decide),rfl⟩⟩))
theorem rNext15_any (n:Int) (w:World) (hn0: -900000000≤n) (hn1:n≤900000000) (hc:comes n=true):
 Calls Tryz.prog 25 #[.int .i64 n] w (ValPost w (.int .i64 (nextD n))):=by
 have st:=St.start w
 refine E.enter (nt:=18) (L:=[(0,.int .i64 n)]) Tryz.func25 rfl rfl rfl (args_cons (i:=0) rfl args_nil) ?_
 intro a hF
 refine wp_seq ?_
 refine E.seq ?_
 refine E.opv hF (r_assign ev_c) rfl rfl rfl rfl fun a hF=>?_
 refine E.nil ?_
 refine wp_seq ?_
 refine E.seq ?_
 refine E.opv hF (r_move (hF.at 1 rfl)) rfl rfl rfl rfl fun a hF=>?_
 refine E.opv hF (r_bin (hF.at 0 rfl) ev_c eg_scalar (ia_add (by omega) (by omega))) rfl rfl rfl rfl fun a hF=>?_
 refine E.opset (L':=[(0,.int .i64 (n+25)),(5,.int .i64 (n+25)),(4,.int .i64 n),(2,.int .i64 0)]) hF (r_assign (hF.at 0 rfl)) rfl rfl rfl rfl fun a hF=>?_
 refine E.nil ?_
 refine wp_seq ?_
 refine wp_seq ?_
 refine E.seq ?_
 refine E.opv hF (r_assign ev_c) rfl rfl rfl rfl fun a hF=>?_
 refine E.nil ?_
 refine wp_block ?_
 refine E.loop (fun mq a wv=>∃(j:Int) (m:Int),0≤m∧j=n+25+m∧j≤nextD n∧Fr 18 a [(3,.int .i64 m),(0,.int .i64 j),(2,.int .i64 0)]∧St w wv [] []∧mq=(40-m:Int).toNat) ((40-0:Int).toNat) ?_ ?_
 ·exact⟨(n+25),0,(Int.le_refl _),(by omega),(by have:=nextD_spec hc;omega),Fr.pick (L':=[(3,.int .i64 0),(0,.int .i64 (n+25)),(2,.int .i64 0)]) hF [0,1,4] rfl,st.pick [] [] rfl rfl (by decide),rfl⟩
 ·rintro mq a w1 ⟨j,m,hm0,hj,hL,hF,st,hm⟩
  have hns:=nextD_spec hc
  refine wp_seq ?_
  refine wp_seq ?_
  refine E.seq ?_
  refine E.opv hF (r_move (hF.at 0 rfl)) rfl rfl rfl rfl fun a hF=>?_
  refine E.opv hF (r_bin (hF.at 0 rfl) ev_c eg_scalar (bi_int (ic_lss (c:=true) (dec_tt (by omega))) (by simp))) rfl rfl rfl rfl fun a hF=>?_
  refine E.opv hF (r_move (hF.at 0 rfl)) rfl rfl rfl rfl fun a hF=>?_
  refine E.opvg hF (r_move (hF.at 4 rfl)) (wanted_by rfl rfl (hF.at 0 rfl) rfl) rfl rfl rfl fun a hF=>?_
  refine S.callxg st hF (wanted_by rfl rfl (hF.at 1 rfl) rfl) (r_call Tryz.func13 en13.1 en13.2 (map1 (hF.at 0 rfl))) (rComes15_any j _ (by omega) (by omega)) rfl rfl rfl fun w2 a st hF=>?_
  by_cases hc3:comes j=true
  ·first
   |(exfalso;omega)
   |(refine E.opvg hF (r_un (Eq.trans (hF.at 0 rfl) (congrArg Value.bool hc3)) (bn_not _ false rfl)) (wanted_by rfl rfl (hF.at 2 rfl) rfl) rfl rfl rfl fun a hF=>?_
     refine E.opv hF (r_pick_t (hF.at 3 rfl) (hF.at 0 rfl)) rfl rfl rfl rfl fun a hF=>?_
     refine E.nil ?_
     refine wp_cond_false (hF.at 0 rfl) ?_
     refine wp_exit ?_
     refine E.past ?_
     refine E.past ?_
     refine E.out (id:=0) ?_
     refine E.norm ?_
     refine wp_seq ?_
     refine E.seq ?_
     refine E.opv hF (r_move (hF.at 8 rfl)) rfl rfl rfl rfl fun a hF=>?_
     refine E.opset (L':=[(2,.int .i64 j),(17,.int .i64 j),(12,.bool false),(11,.bool false),(10,.bool (comes j)),(9,.int .i64 j),(8,.bool true),(7,.bool true),(6,.int .i64 m),(3,.int .i64 m),(0,.int .i64 j)]) hF (r_assign (hF.at 0 rfl)) rfl rfl rfl rfl fun a hF=>?_
     refine E.nil ?_
     refine wp_ret ?_
     have bel:=st.bel
     refine bodyPost_ret (res_tmp Tryz.results25 (hF.at 0 rfl)) hF.dfr ?_
     exact⟨rv_int (nextD_is hc (by omega) hL hc3),bel⟩)
  ·first
   |(exfalso;omega)
   |(refine E.opvg hF (r_un (Eq.trans (hF.at 0 rfl) (congrArg Value.bool (eq_false_of_ne_true hc3))) (bn_not _ true rfl)) (wanted_by rfl rfl (hF.at 2 rfl) rfl) rfl rfl rfl fun a hF=>?_
     refine E.opv hF (r_pick_t (hF.at 3 rfl) (hF.at 0 rfl)) rfl rfl rfl rfl fun a hF=>?_
     refine E.nil ?_
     refine wp_cond_true (hF.at 0 rfl) ?_
     refine wp_skip ?_
     refine E.norm ?_
     refine wp_seq ?_
     refine wp_block ?_
     refine E.seq ?_
     refine E.opv hF (r_move (hF.at 8 rfl)) rfl rfl rfl rfl fun a hF=>?_
     refine E.opv hF (r_bin (hF.at 0 rfl) ev_c eg_scalar (ia_add (by omega) (by omega))) rfl rfl rfl rfl fun a hF=>?_
     refine E.opset (L':=[(0,.int .i64 (j+1)),(16,.int .i64 (j+1)),(15,.int .i64 j),(12,.bool true),(11,.bool true),(10,.bool (comes j)),(9,.int .i64 j),(8,.bool true),(7,.bool true),(6,.int .i64 m),(3,.int .i64 m),(2,.int .i64 0)]) hF (r_assign (hF.at 0 rfl)) rfl rfl rfl rfl fun a hF=>?_
     refine E.nil0 ?_
     refine E.blk ?_
     refine E.norm ?_
     refine E.seq ?_
     refine E.opv hF (r_move (hF.at 10 rfl)) rfl rfl rfl rfl fun a hF=>?_
     refine E.opv hF (r_bin (hF.at 0 rfl) ev_c eg_scalar (ia_add (by omega) (by omega))) rfl rfl rfl rfl fun a hF=>?_
     refine E.opset (L':=[(3,.int .i64 (m+1)),(14,.int .i64 (m+1)),(13,.int .i64 m),(0,.int .i64 (j+1)),(16,.int .i64 (j+1)),(15,.int .i64 j),(12,.bool true),(11,.bool true),(10,.bool (comes j)),(9,.int .i64 j),(8,.bool true),(7,.bool true),(6,.int .i64 m),(2,.int .i64 0)]) hF (r_assign (hF.at 0 rfl)) rfl rfl rfl rfl fun a hF=>?_
     refine E.nil0 ?_
     refine E.norm ?_
     exact⟨(40-(m+1):Int).toNat,by omega,⟨(j+1),(m+1),(by omega),(by omega),(by have:=nextD_no hc (by omega) hL hc3;omega),Fr.pick (L':=[(3,.int .i64 (m+1)),(0,.int .i64 (j+1)),(2,.int .i64 0)]) hF [0,3,13] rfl,st.pick [] [] rfl rfl (by decide),rfl⟩⟩)
theorem rAt15_any (v1 v2:Value) (q1 q2:Rat) (k j:Nat) (K N:Int) (w:World) (h1:Rr w v1 q1 k) (h2:Rr w v2 q2 j) (hp:1≤k) (hp2:1≤j) (hk:k≤1000) (hj:j≤1000) (hK0: -9223372036854775808<K) (hK1:K≤9223372036854775807) (hN0: -9223372036854775808<N) (hN1:N≤9223372036854775807):
 Calls Tryz.prog 52 #[v1,v2,.int .i64 K,.int .i64 N] w (RrPost w (atR q1 q2 K N) (2*k+j+4)):=by
 obtain⟨b1,ad1,n1,c1,ae1,m1,d1,rfl⟩:=h1.form
 obtain⟨b2,ad2,n2,c2,ae2,m2,d2,rfl⟩:=h2.form
 have st:=St.start w
 refine E.enter (nt:=18) (L:=[(0,.agg #[.bool b1,.slice ad1 n1 c1,.slice ae1 m1 d1]),(1,.agg #[.bool b2,.slice ad2 n2 c2,.slice ae2 m2 d2]),(2,.int .i64 K),(3,.int .i64 N)]) Tryz.func52 rfl rfl rfl (args_cons (i:=0) rfl (args_cons (i:=1) rfl (args_cons (i:=2) rfl (args_cons (i:=3) rfl args_nil)))) ?_
 intro a hF
 refine wp_seq ?_
 refine E.seq ?_
 refine S.box st hF (hF.at 0 rfl) rfl rfl fun g4 w1 a st hF=>?_
 refine S.box st hF (hF.at 2 rfl) rfl rfl fun g5 w2 a st hF=>?_
 refine S.alloc st hF ty_RRat rfl rfl fun g8 w3 a st hF=>?_
 refine E.nil ?_
 refine wp_seq ?_
 refine E.drawn 9 mixed hF [9,10,11,12,13,14,15,16,17] [(fun _ v=>v= .agg #[.bool b1,.slice ad1 n1 c1,.slice ae1 m1 d1]),(fun _ v=>v= .agg #[.bool b2,.slice ad2 n2 c2,.slice ae2 m2 d2]),(fun _ v=>v= .agg #[.bool b1,.slice ad1 n1 c1,.slice ae1 m1 d1]),(fun w v=>Rr w v ((q2)-(q1)) ((j+k+1))),(fun _ v=>v= .int .i64 K),(fun _ v=>v= .int .i64 N),(fun w v=>Rr w v (((K:Int):Rat)/((N:Int):Rat)) (2)),(fun w v=>Rr w v (((q2)-(q1))*(((K:Int):Rat)/((N:Int):Rat))) (((j+k+1)+2))),(fun w v=>Rr w v ((q1)+(((q2)-(q1))*(((K:Int):Rat)/((N:Int):Rat)))) ((k+((j+k+1)+2)+1)))] [] (by decide+kernel) (by decide+kernel) rfl rfl rfl ⟨(Mb.eq _),(Mb.eq _),(Mb.eq _),(fun _ _ _ h hb=>h.below hb),(Mb.eq _),(Mb.eq _),(fun _ _ _ h hb=>h.below hb),(fun _ _ _ h hb=>h.below hb),(fun _ _ _ h hb=>h.below hb),trivial⟩ trivial ⟨?_,?_,?_,?_,?_,?_,?_,?_,?_,trivial⟩ ?_
 ·intro a' w' hF' hb hd
  exact dv0 (r_load (hF'.at 2 rfl) (ld_all ty_RRat ((st.bk 2 rfl).below hb) rfl)) rfl rfl rfl
 ·intro a' w' hF' hb hd
  exact dv0 (r_load (hF'.at 1 rfl) (ld_all ty_RRat ((st.bk 1 rfl).below hb) rfl)) rfl rfl rfl
 ·intro a' w' hF' hb hd
  exact dv0 (r_load (hF'.at 2 rfl) (ld_all ty_RRat ((st.bk 2 rfl).below hb) rfl)) rfl rfl rfl
 ·intro a' w' hF' hb hd
  have e10:=sHe hd 0 10 rfl rfl rfl rfl
  have e11:=sHe hd 1 11 rfl rfl rfl rfl
  exact dc0 (r_call Tryz.func68 en68.1 en68.2 (map2 e10 e11)) (dSub2_any _ _ (q2) (q1) j k _ (h2.below (below_to st.bel hb)) (h1.below (below_to st.bel hb)) (by omega) (by omega) (by omega) (by omega)) rfl rfl
 ·intro a' w' hF' hb hd
  exact dv0 (r_move (hF'.at 5 rfl)) rfl rfl rfl
 ·intro a' w' hF' hb hd
  exact dv0 (r_move (hF'.at 6 rfl)) rfl rfl rfl
 ·intro a' w' hF' hb hd
  have e13:=sHe hd 0 13 rfl rfl rfl rfl
  have e14:=sHe hd 1 14 rfl rfl rfl rfl
  exact dc0 (r_call Tryz.func16 en16.1 en16.2 (map2 e13 e14)) (dOf_any (K) (N) _ (by omega) (by omega) (by omega) (by omega)) rfl rfl
 ·intro a' w' hF' hb hd
  obtain⟨v12_0,e12,h12_1⟩:=sH hd 0 12 rfl rfl rfl rfl
  obtain⟨v15_0,e15,h15_1⟩:=sH hd 1 15 rfl rfl rfl rfl
  exact dc0 (r_call Tryz.func69 en69.1 en69.2 (map2 e12 e15)) (dMul2_any _ _ _ _ (j+k+1) 2 _ h12_1 h15_1 (by omega) (by omega) (by omega) (by omega)) rfl rfl
 ·intro a' w' hF' hb hd
  have e9:=sHe hd 0 9 rfl rfl rfl rfl
  obtain⟨v16_0,e16,h16_1⟩:=sH hd 1 16 rfl rfl rfl rfl
  exact dc0 (r_call Tryz.func35 en35.1 en35.2 (map2 e9 e16)) (dAdd2_any _ _ (q1) _ k ((j+k+1)+2) _ (h1.below (below_to st.bel hb)) h16_1 (by omega) (by omega) (by omega) (by omega)) rfl rfl
 intro a w4 hF bb hall hne
 replace st:=st.to bb
 obtain⟨vv5,e17,hh6⟩:=sS hall 8 17 rfl rfl
 replace st:=st.add hh6 (Rr.cl _)
 clear hh6
 clear hall hne bb
 obtain⟨b7,ad7,n7,c7,ae7,m7,d7,rfl⟩:=Rr.form (st.f 0 rfl)
 replace hF:=hF.add e17
 clear e17
 refine S.sto st hF 0 rfl (hF.at 1 rfl) (hF.at 0 rfl) ty_RRat rfl rfl rfl rfl fun w8 a st hF=>?_
 refine E.nil ?_
 refine wp_ret ?_
 refine S.ret Tryz.results52 st hF (hF.at 1 rfl) 0 rfl ty_RRat rfl hF.dfr ?_
 have bel:=st.bel
 exact⟨_,rfl,Rr.cast (Rr.up (st.f 0 rfl) _ (by omega)) rfl,bel⟩
theorem rIndex15_any (c:Int) (v1:Value) (q1:Rat) (k i:Nat) (w:World) (h1:Rr w v1 q1 k) (li1:RLim q1 i) (hp:1≤k) (hk:k≤20) (hi:i≤3):
 Calls Tryz.prog 26 #[.int .i64 c,v1] w (ValPost w (.int .i64 (kX c q1))):=by
 obtain⟨b1,ad1,n1,c1,ae1,m1,d1,rfl⟩:=h1.form
 have hp3:=prt_bd (x:=phaseV q1) (n:=30) (by omega) (phaseV_low _) (phaseV_high _)
 have hp6:=prt_bd (x:=phaseV q1) (n:=60) (by omega) (phaseV_low _) (phaseV_high _)
 have hp2:=prt_bd (x:=moonV q1) (n:=27) (by omega) (moonV_low _) (moonV_high _)
 have hpy:=prt_bd (x:=yogaV q1) (n:=27) (by omega) (rmod_low c360_pos) (rmod_high c360_pos)
 have st:=St.start w
 refine E.enter (nt:=33) (L:=[(0,.int .i64 c),(1,.agg #[.bool b1,.slice ad1 n1 c1,.slice ae1 m1 d1])]) Tryz.func26 rfl rfl rfl (args_cons (i:=0) rfl (args_cons (i:=1) rfl args_nil)) ?_
 intro a hF
 refine wp_seq ?_
 refine E.seq ?_
 refine S.box st hF (hF.at 1 rfl) rfl rfl fun g3 w1 a st hF=>?_
 refine E.opv hF (r_assign ev_c) rfl rfl rfl rfl fun a hF=>?_
 refine E.nil ?_
 refine wp_seq ?_
 refine E.seq ?_
 refine E.opv hF (r_load (hF.at 1 rfl) (ld_all ty_RRat (st.bk 0 rfl) rfl)) rfl rfl rfl rfl fun a hF=>?_
 refine S.callx st hF (r_call Tryz.func71 en71.1 en71.2 (map1 (hF.at 0 rfl))) (rOf12_any _ (q1) k i _ (h1.below st.bel) li1 (by omega) (by omega) (by omega)) rfl rfl rfl rfl fun w2 a st hF=>?_
 refine S.new st hF 0 rfl ty_RElem rfl rfl rfl rfl rfl fun g5 w3 a st hF=>?_
 refine E.nil ?_
 refine wp_seq ?_
 refine wp_seq ?_
 refine E.seq ?_
 refine E.opv hF (r_move (hF.at 5 rfl)) rfl rfl rfl rfl fun a hF=>?_
 refine E.nil ?_
 refine wp_block ?_
 refine wp_seq ?_
 refine E.seq ?_
 by_cases hc4:c=0
 ·first
  |(exfalso;omega)
  |(refine E.opv hF (r_bin (hF.at 0 rfl) ev_c eg_scalar (bi_int (ic_eql (c:=true) (dec_tt hc4)) (by simp))) rfl rfl rfl rfl fun a hF=>?_
    refine E.opv hF (r_assign (hF.at 0 rfl)) rfl rfl rfl rfl fun a hF=>?_
    refine E.nil ?_
    refine wp_cond_true (hF.at 0 rfl) ?_
    refine wp_seq ?_
    refine E.seq ?_
    refine E.opv hF (r_field (hF.at 3 rfl) (fa_RElem_0 (p:=0) rfl)) rfl rfl rfl rfl fun a hF=>?_
    refine E.opv hF (r_load (hF.at 0 rfl) (ldb_int (v:= .int .i64 (prt (sunV (q1)) 12)) (st.bk 0 rfl) rfl)) rfl rfl rfl rfl fun a hF=>?_
    refine E.opset (L':=[(4,.int .i64 (prt (sunV (q1)) 12)),(12,.int .i64 (prt (sunV (q1)) 12)),(11,.pointer (some ⟨g5,0,none⟩)),(9,.bool true),(10,.bool true),(8,.int .i64 c),(5,.pointer (some ⟨g5,0,none⟩)),(7,.agg #[.int .i64 (prt (sunV (q1)) 12),.int .i64 (prt (phaseV (q1)) 30+1),.int .i64 (prt (moonV (q1)) 27+1),.int .i64 (prt (yogaV (q1)) 27+1),.int .i64 (prt (phaseV (q1)) 60+1)]),(6,.agg #[.bool b1,.slice ad1 n1 c1,.slice ae1 m1 d1]),(3,.pointer (some ⟨g3,0,none⟩)),(0,.int .i64 c),(1,.agg #[.bool b1,.slice ad1 n1 c1,.slice ae1 m1 d1])]) hF (r_assign (hF.at 0 rfl)) rfl rfl rfl rfl fun a hF=>?_
    refine E.nil ?_
    refine wp_ret ?_
    have bel:=st.bel
    refine bodyPost_ret (res_tmp Tryz.results26 (hF.at 0 rfl)) hF.dfr ?_
    exact⟨rv_int (by have e:=kX_0 q1;rw[hc4];omega),bel⟩)
 ·first
  |(exfalso;omega)
  |(refine E.opv hF (r_bin (hF.at 0 rfl) ev_c eg_scalar (bi_int (ic_eql (c:=false) (dec_ff hc4)) (by simp))) rfl rfl rfl rfl fun a hF=>?_
    refine E.opv hF (r_assign (hF.at 0 rfl)) rfl rfl rfl rfl fun a hF=>?_
    refine E.nil ?_
    refine wp_cond_false (hF.at 0 rfl) ?_
    refine wp_seq ?_
    refine E.seq ?_
    by_cases hc5:c=1
    ·first
     |(exfalso;omega)
     |(refine E.opv hF (r_bin (hF.at 2 rfl) ev_c eg_scalar (bi_int (ic_eql (c:=true) (dec_tt hc5)) (by simp))) rfl rfl rfl rfl fun a hF=>?_
       refine E.opv hF (r_assign (hF.at 0 rfl)) rfl rfl rfl rfl fun a hF=>?_
       refine E.nil ?_
       refine wp_cond_true (hF.at 0 rfl) ?_
       refine wp_seq ?_
       refine E.seq ?_
       refine E.opv hF (r_field (hF.at 5 rfl) (fa_RElem_1 (p:=1) rfl)) rfl rfl rfl rfl fun a hF=>?_
       refine E.opv hF (r_load (hF.at 0 rfl) (ldb_int (v:= .int .i64 (prt (phaseV (q1)) 30+1)) (st.bk 0 rfl) rfl)) rfl rfl rfl rfl fun a hF=>?_
       refine E.opv hF (r_bin (hF.at 0 rfl) ev_c eg_scalar (ia_sub (by omega) (by omega))) rfl rfl rfl rfl fun a hF=>?_
       refine E.opset (L':=[(4,.int .i64 ((prt (phaseV (q1)) 30+1)-1)),(17,.int .i64 ((prt (phaseV (q1)) 30+1)-1)),(16,.int .i64 (prt (phaseV (q1)) 30+1)),(15,.pointer (some ⟨g5,1,none⟩)),(13,.bool true),(14,.bool true),(9,.bool false),(10,.bool false),(8,.int .i64 c),(5,.pointer (some ⟨g5,0,none⟩)),(7,.agg #[.int .i64 (prt (sunV (q1)) 12),.int .i64 (prt (phaseV (q1)) 30+1),.int .i64 (prt (moonV (q1)) 27+1),.int .i64 (prt (yogaV (q1)) 27+1),.int .i64 (prt (phaseV (q1)) 60+1)]),(6,.agg #[.bool b1,.slice ad1 n1 c1,.slice ae1 m1 d1]),(3,.pointer (some ⟨g3,0,none⟩)),(0,.int .i64 c),(1,.agg #[.bool b1,.slice ad1 n1 c1,.slice ae1 m1 d1])]) hF (r_assign (hF.at 0 rfl)) rfl rfl rfl rfl fun a hF=>?_
       refine E.nil ?_
       refine wp_ret ?_
       have bel:=st.bel
       refine bodyPost_ret (res_tmp Tryz.results26 (hF.at 0 rfl)) hF.dfr ?_
       exact⟨rv_int (by have e:=kX_1 q1;rw[hc5];omega),bel⟩)
    ·first
     |(exfalso;omega)
     |(refine E.opv hF (r_bin (hF.at 2 rfl) ev_c eg_scalar (bi_int (ic_eql (c:=false) (dec_ff hc5)) (by simp))) rfl rfl rfl rfl fun a hF=>?_
       refine E.opv hF (r_assign (hF.at 0 rfl)) rfl rfl rfl rfl fun a hF=>?_
       refine E.nil ?_
       refine wp_cond_false (hF.at 0 rfl) ?_
       refine wp_seq ?_
       refine E.seq ?_
       by_cases hc6:c=2
       ·first
        |(exfalso;omega)
        |(refine E.opv hF (r_bin (hF.at 4 rfl) ev_c eg_scalar (bi_int (ic_eql (c:=true) (dec_tt hc6)) (by simp))) rfl rfl rfl rfl fun a hF=>?_
          refine E.opv hF (r_assign (hF.at 0 rfl)) rfl rfl rfl rfl fun a hF=>?_
          refine E.nil ?_
          refine wp_cond_true (hF.at 0 rfl) ?_
          refine wp_seq ?_
          refine E.seq ?_
          refine E.opv hF (r_field (hF.at 7 rfl) (fa_RElem_2 (p:=2) rfl)) rfl rfl rfl rfl fun a hF=>?_
          refine E.opv hF (r_load (hF.at 0 rfl) (ldb_int (v:= .int .i64 (prt (moonV (q1)) 27+1)) (st.bk 0 rfl) rfl)) rfl rfl rfl rfl fun a hF=>?_
          refine E.opv hF (r_bin (hF.at 0 rfl) ev_c eg_scalar (ia_sub (by omega) (by omega))) rfl rfl rfl rfl fun a hF=>?_
          refine E.opset (L':=[(4,.int .i64 ((prt (moonV (q1)) 27+1)-1)),(22,.int .i64 ((prt (moonV (q1)) 27+1)-1)),(21,.int .i64 (prt (moonV (q1)) 27+1)),(20,.pointer (some ⟨g5,2,none⟩)),(18,.bool true),(19,.bool true),(13,.bool false),(14,.bool false),(9,.bool false),(10,.bool false),(8,.int .i64 c),(5,.pointer (some ⟨g5,0,none⟩)),(7,.agg #[.int .i64 (prt (sunV (q1)) 12),.int .i64 (prt (phaseV (q1)) 30+1),.int .i64 (prt (moonV (q1)) 27+1),.int .i64 (prt (yogaV (q1)) 27+1),.int .i64 (prt (phaseV (q1)) 60+1)]),(6,.agg #[.bool b1,.slice ad1 n1 c1,.slice ae1 m1 d1]),(3,.pointer (some ⟨g3,0,none⟩)),(0,.int .i64 c),(1,.agg #[.bool b1,.slice ad1 n1 c1,.slice ae1 m1 d1])]) hF (r_assign (hF.at 0 rfl)) rfl rfl rfl rfl fun a hF=>?_
          refine E.nil ?_
          refine wp_ret ?_
          have bel:=st.bel
          refine bodyPost_ret (res_tmp Tryz.results26 (hF.at 0 rfl)) hF.dfr ?_
          exact⟨rv_int (by have e:=kX_2 q1;rw[hc6];omega),bel⟩)
       ·first
        |(exfalso;omega)
        |(refine E.opv hF (r_bin (hF.at 4 rfl) ev_c eg_scalar (bi_int (ic_eql (c:=false) (dec_ff hc6)) (by simp))) rfl rfl rfl rfl fun a hF=>?_
          refine E.opv hF (r_assign (hF.at 0 rfl)) rfl rfl rfl rfl fun a hF=>?_
          refine E.nil ?_
          refine wp_cond_false (hF.at 0 rfl) ?_
          refine wp_seq ?_
          refine E.seq ?_
          by_cases hc7:c=3
          ·first
           |(exfalso;omega)
           |(refine E.opv hF (r_bin (hF.at 6 rfl) ev_c eg_scalar (bi_int (ic_eql (c:=true) (dec_tt hc7)) (by simp))) rfl rfl rfl rfl fun a hF=>?_
             refine E.opv hF (r_assign (hF.at 0 rfl)) rfl rfl rfl rfl fun a hF=>?_
             refine E.nil ?_
             refine wp_cond_true (hF.at 0 rfl) ?_
             refine wp_seq ?_
             refine E.seq ?_
             refine E.opv hF (r_field (hF.at 9 rfl) (fa_RElem_3 (p:=3) rfl)) rfl rfl rfl rfl fun a hF=>?_
             refine E.opv hF (r_load (hF.at 0 rfl) (ldb_int (v:= .int .i64 (prt (yogaV (q1)) 27+1)) (st.bk 0 rfl) rfl)) rfl rfl rfl rfl fun a hF=>?_
             refine E.opv hF (r_bin (hF.at 0 rfl) ev_c eg_scalar (ia_sub (by omega) (by omega))) rfl rfl rfl rfl fun a hF=>?_
             refine E.opset (L':=[(4,.int .i64 ((prt (yogaV (q1)) 27+1)-1)),(27,.int .i64 ((prt (yogaV (q1)) 27+1)-1)),(26,.int .i64 (prt (yogaV (q1)) 27+1)),(25,.pointer (some ⟨g5,3,none⟩)),(23,.bool true),(24,.bool true),(18,.bool false),(19,.bool false),(13,.bool false),(14,.bool false),(9,.bool false),(10,.bool false),(8,.int .i64 c),(5,.pointer (some ⟨g5,0,none⟩)),(7,.agg #[.int .i64 (prt (sunV (q1)) 12),.int .i64 (prt (phaseV (q1)) 30+1),.int .i64 (prt (moonV (q1)) 27+1),.int .i64 (prt (yogaV (q1)) 27+1),.int .i64 (prt (phaseV (q1)) 60+1)]),(6,.agg #[.bool b1,.slice ad1 n1 c1,.slice ae1 m1 d1]),(3,.pointer (some ⟨g3,0,none⟩)),(0,.int .i64 c),(1,.agg #[.bool b1,.slice ad1 n1 c1,.slice ae1 m1 d1])]) hF (r_assign (hF.at 0 rfl)) rfl rfl rfl rfl fun a hF=>?_
             refine E.nil ?_
             refine wp_ret ?_
             have bel:=st.bel
             refine bodyPost_ret (res_tmp Tryz.results26 (hF.at 0 rfl)) hF.dfr ?_
             exact⟨rv_int (by have e:=kX_3 q1;rw[hc7];omega),bel⟩)
          ·first
           |(exfalso;omega)
           |(refine E.opv hF (r_bin (hF.at 6 rfl) ev_c eg_scalar (bi_int (ic_eql (c:=false) (dec_ff hc7)) (by simp))) rfl rfl rfl rfl fun a hF=>?_
             refine E.opv hF (r_assign (hF.at 0 rfl)) rfl rfl rfl rfl fun a hF=>?_
             refine E.nil ?_
             refine wp_cond_false (hF.at 0 rfl) ?_
             refine wp_seq ?_
             refine E.seq ?_
             by_cases hc8:c=4
             ·first
              |(exfalso;omega)
              |(refine E.opv hF (r_bin (hF.at 8 rfl) ev_c eg_scalar (bi_int (ic_eql (c:=true) (dec_tt hc8)) (by simp))) rfl rfl rfl rfl fun a hF=>?_
                refine E.opv hF (r_assign (hF.at 0 rfl)) rfl rfl rfl rfl fun a hF=>?_
                refine E.nil ?_
                refine wp_cond_true (hF.at 0 rfl) ?_
                refine wp_seq ?_
                refine E.seq ?_
                refine E.opv hF (r_field (hF.at 11 rfl) (fa_RElem_4 (p:=4) rfl)) rfl rfl rfl rfl fun a hF=>?_
                refine E.opv hF (r_load (hF.at 0 rfl) (ldb_int (v:= .int .i64 (prt (phaseV (q1)) 60+1)) (st.bk 0 rfl) rfl)) rfl rfl rfl rfl fun a hF=>?_
                refine E.opv hF (r_bin (hF.at 0 rfl) ev_c eg_scalar (ia_sub (by omega) (by omega))) rfl rfl rfl rfl fun a hF=>?_
                refine E.opset (L':=[(4,.int .i64 ((prt (phaseV (q1)) 60+1)-1)),(32,.int .i64 ((prt (phaseV (q1)) 60+1)-1)),(31,.int .i64 (prt (phaseV (q1)) 60+1)),(30,.pointer (some ⟨g5,4,none⟩)),(28,.bool true),(29,.bool true),(23,.bool false),(24,.bool false),(18,.bool false),(19,.bool false),(13,.bool false),(14,.bool false),(9,.bool false),(10,.bool false),(8,.int .i64 c),(5,.pointer (some ⟨g5,0,none⟩)),(7,.agg #[.int .i64 (prt (sunV (q1)) 12),.int .i64 (prt (phaseV (q1)) 30+1),.int .i64 (prt (moonV (q1)) 27+1),.int .i64 (prt (yogaV (q1)) 27+1),.int .i64 (prt (phaseV (q1)) 60+1)]),(6,.agg #[.bool b1,.slice ad1 n1 c1,.slice ae1 m1 d1]),(3,.pointer (some ⟨g3,0,none⟩)),(0,.int .i64 c),(1,.agg #[.bool b1,.slice ad1 n1 c1,.slice ae1 m1 d1])]) hF (r_assign (hF.at 0 rfl)) rfl rfl rfl rfl fun a hF=>?_
                refine E.nil ?_
                refine wp_ret ?_
                have bel:=st.bel
                refine bodyPost_ret (res_tmp Tryz.results26 (hF.at 0 rfl)) hF.dfr ?_
                exact⟨rv_int (by have e:=kX_4 q1;rw[hc8];omega),bel⟩)
             ·first
              |(exfalso;omega)
              |(refine E.opv hF (r_bin (hF.at 8 rfl) ev_c eg_scalar (bi_int (ic_eql (c:=false) (dec_ff hc8)) (by simp))) rfl rfl rfl rfl fun a hF=>?_
                refine E.opv hF (r_assign (hF.at 0 rfl)) rfl rfl rfl rfl fun a hF=>?_
                refine E.nil ?_
                refine wp_cond_false (hF.at 0 rfl) ?_
                refine wp_skip ?_
                refine E.blk ?_
                refine E.norm ?_
                refine wp_seq ?_
                refine E.seq ?_
                refine E.opset (L':=[(4,.int .i64 0),(28,.bool false),(29,.bool false),(23,.bool false),(24,.bool false),(18,.bool false),(19,.bool false),(13,.bool false),(14,.bool false),(9,.bool false),(10,.bool false),(8,.int .i64 c),(5,.pointer (some ⟨g5,0,none⟩)),(7,.agg #[.int .i64 (prt (sunV (q1)) 12),.int .i64 (prt (phaseV (q1)) 30+1),.int .i64 (prt (moonV (q1)) 27+1),.int .i64 (prt (yogaV (q1)) 27+1),.int .i64 (prt (phaseV (q1)) 60+1)]),(6,.agg #[.bool b1,.slice ad1 n1 c1,.slice ae1 m1 d1]),(3,.pointer (some ⟨g3,0,none⟩)),(0,.int .i64 c),(1,.agg #[.bool b1,.slice ad1 n1 c1,.slice ae1 m1 d1])]) hF (r_assign ev_c) rfl rfl rfl rfl fun a hF=>?_
                refine E.nil ?_
                refine wp_ret ?_
                have bel:=st.bel
                refine bodyPost_ret (res_tmp Tryz.results26 (hF.at 0 rfl)) hF.dfr ?_
                exact⟨rv_int (kX_o q1 hc4 hc5 hc6 hc7 hc8).symm,bel⟩)))))
theorem bs_p5 (w:World):∃g w',(Instr.buildSlice 35 5 #[(0,.int .i64 12),(1,.int .i64 30),(2,.int .i64 27),(3,.int .i64 27),(4,.int .i64 60)]).run Tryz.prog w= .ok (.slice (some ⟨g,0,none⟩) 5 5) w'∧Below w.heap.size w w'∧Blk w' g (cl .i64 [12,30,27,27,60]):=by
 have hb:=blk_new (w:=w) (cs:=cl .i64 [12,30,27,27,60]) 3
 refine⟨w.heap.size,w.alloc (.cells (cl .i64 [12,30,27,27,60]).toArray 3),?_,hb.2,hb.1⟩
 have hs:=size_run (P:=Tryz.prog) (T:=3) (n:=1) sz_int w
 simp[Instr.buildSlice,go_sem,hs,Instr.fill,Value.cells,newRow,cl]
theorem ps_p5 {a:Act} {x0 x1 x2 x3 x4:Value}:(#[(0,Operand.const x0),(1,Operand.const x1),(2,Operand.const x2),(3,Operand.const x3),(4,Operand.const x4)].map fun(p:Nat×Operand)=>(p.1,a.eval p.2))=#[(0,x0),(1,x1),(2,x2),(3,x3),(4,x4)]:=by simp[Act.eval]
theorem p5_at {k:Int} (h0:0≤k) (h1:k<5):(cl .i64 [12,30,27,27,60])[k.toNat]?=some (.int .i64 (kN k)):=by
 have h:k=0∨k=1∨k=2∨k=3∨k=4:=by omega
 rcases h with rfl|rfl|rfl|rfl|rfl <;> rfl
theorem ix_int5 {w:World} {g n c:Nat} {i:Int} (h0:0≤i) (h1:i<n):(Instr.indexAt 35 (.slice (some ⟨g,0,none⟩) n c) (.int .i64 i)).run Tryz.prog w= .ok (.pointer (some ⟨g,i.toNat,none⟩)) w:=by
 simp[Instr.indexAt,asIntOf,run_underlying Tryz.underlying35,Sem.run_bind,h0,h1,Addr.add_mid]
theorem rParts15_any (c:Int) (w:World):
 Calls Tryz.prog 38 #[.int .i64 c] w (ValPost w (.int .i64 (kP c))):=by
 have bel:Below w.heap.size w w:=Below.refl _ _
 refine E.enter (nt:=13) (L:=[(0,.int .i64 c)]) Tryz.func38 rfl rfl rfl (args_cons (i:=0) rfl args_nil) ?_
 intro a hF
 refine wp_seq ?_
 refine E.seq ?_
 refine E.opv hF (r_assign ev_c) rfl rfl rfl rfl fun a hF=>?_
 refine E.nil ?_
 refine wp_seq ?_
 refine wp_seq ?_
 refine E.seq ?_
 refine E.opv hF (r_move (hF.at 1 rfl)) rfl rfl rfl rfl fun a hF=>?_
 by_cases hc1:c<0
 ·first
  |(exfalso;omega)
  |(refine E.opv hF (r_bin (hF.at 0 rfl) ev_c eg_scalar (bi_int (ic_lss (c:=true) (dec_tt hc1)) (by simp))) rfl rfl rfl rfl fun a hF=>?_
    refine E.opv hF (r_move (hF.at 0 rfl)) rfl rfl rfl rfl fun a hF=>?_
    refine E.unwanted hF (wanted_by rfl rfl (hF.at 0 rfl) rfl) rfl rfl rfl fun a hF=>?_
    refine E.unwanted hF (wanted_by rfl rfl (hF.at 1 rfl) rfl) rfl rfl rfl fun a hF=>?_
    refine E.opv hF (r_pick_t (hF.at 2 rfl) ev_c) rfl rfl rfl rfl fun a hF=>?_
    refine E.nil ?_
    refine wp_cond_true (hF.at 0 rfl) ?_
    refine wp_seq ?_
    refine E.seq ?_
    refine E.opset (L':=[(2,.int .i64 0),(8,.bool true),(7,undef),(6,undef),(5,.bool true),(4,.bool true),(3,.int .i64 c),(0,.int .i64 c)]) hF (r_assign ev_c) rfl rfl rfl rfl fun a hF=>?_
    refine E.nil ?_
    refine wp_ret ?_
    refine bodyPost_ret (res_tmp Tryz.results38 (hF.at 0 rfl)) hF.dfr ?_
    exact⟨rv_int (by unfold kP;exact(if_neg (by omega)).symm),bel⟩)
 ·first
  |(exfalso;omega)
  |(refine E.opv hF (r_bin (hF.at 0 rfl) ev_c eg_scalar (bi_int (ic_lss (c:=false) (dec_ff hc1)) (by simp))) rfl rfl rfl rfl fun a hF=>?_
    refine E.opv hF (r_move (hF.at 0 rfl)) rfl rfl rfl rfl fun a hF=>?_
    refine E.opvg hF (r_move (hF.at 4 rfl)) (wanted_by rfl rfl (hF.at 0 rfl) rfl) rfl rfl rfl fun a hF=>?_
    by_cases hc2:4<c
    ·first
     |(exfalso;omega)
     |(refine E.opvg hF (r_bin (hF.at 0 rfl) ev_c eg_scalar (bi_int (ic_gtr (c:=true) (dec_tt hc2)) (by simp))) (wanted_by rfl rfl (hF.at 1 rfl) rfl) rfl rfl rfl fun a hF=>?_
       refine E.opv hF (r_pick_f (hF.at 2 rfl) (hF.at 0 rfl)) rfl rfl rfl rfl fun a hF=>?_
       refine E.nil ?_
       refine wp_cond_true (hF.at 0 rfl) ?_
       refine wp_seq ?_
       refine E.seq ?_
       refine E.opset (L':=[(2,.int .i64 0),(8,.bool true),(7,.bool true),(6,.int .i64 c),(5,.bool false),(4,.bool false),(3,.int .i64 c),(0,.int .i64 c)]) hF (r_assign ev_c) rfl rfl rfl rfl fun a hF=>?_
       refine E.nil ?_
       refine wp_ret ?_
       refine bodyPost_ret (res_tmp Tryz.results38 (hF.at 0 rfl)) hF.dfr ?_
       exact⟨rv_int (by unfold kP;exact(if_neg (by omega)).symm),bel⟩)
    ·first
     |(exfalso;omega)
     |(refine E.opvg hF (r_bin (hF.at 0 rfl) ev_c eg_scalar (bi_int (ic_gtr (c:=false) (dec_ff hc2)) (by simp))) (wanted_by rfl rfl (hF.at 1 rfl) rfl) rfl rfl rfl fun a hF=>?_
       refine E.opv hF (r_pick_f (hF.at 2 rfl) (hF.at 0 rfl)) rfl rfl rfl rfl fun a hF=>?_
       refine E.nil ?_
       refine wp_cond_false (hF.at 0 rfl) ?_
       refine wp_skip ?_
       refine E.norm ?_
       refine wp_seq ?_
       refine E.seq ?_
       obtain⟨gl4,w3,hr,bb,ogl4⟩:=bs_p5 w
       refine E.opv hF (r_buildSlice ps_p5 hr) rfl rfl rfl rfl fun a hF=>?_
       clear hr
       replace bel:=below_to bel bb
       clear bb
       refine E.opv hF (r_move (hF.at 8 rfl)) rfl rfl rfl rfl fun a hF=>?_
       refine E.opv hF (r_index (hF.at 1 rfl) (hF.at 0 rfl) (ix_int5 (by omega) (by omega))) rfl rfl rfl rfl fun a hF=>?_
       refine E.opv hF (r_load (hF.at 0 rfl) (ldb_int (v:= .int .i64 (kN c)) ogl4 (p5_at (by omega) (by omega)))) rfl rfl rfl rfl fun a hF=>?_
       refine E.opset (L':=[(2,.int .i64 (kN c)),(12,.int .i64 (kN c)),(11,.pointer (some ⟨gl4,(c).toNat,none⟩)),(10,.int .i64 c),(9,.slice (some ⟨gl4,0,none⟩) 5 5),(8,.bool false),(7,.bool false),(6,.int .i64 c),(5,.bool false),(4,.bool false),(3,.int .i64 c),(0,.int .i64 c)]) hF (r_assign (hF.at 0 rfl)) rfl rfl rfl rfl fun a hF=>?_
       refine E.nil ?_
       refine wp_ret ?_
       refine bodyPost_ret (res_tmp Tryz.results38 (hF.at 0 rfl)) hF.dfr ?_
       exact⟨rv_int (by unfold kP;exact(if_pos (by omega)).symm),bel⟩))
theorem dct_dsz (p:Rat→Bool) (lo hi:Rat) {m i:Nat} (h:i≤m):dct p lo hi m i+dsz m i≤2^m:=by
 by_cases q:i<m
 ·have b:=hlv_bd p lo hi i
  have t:=two_pos (m-1-i)
  unfold dct dsz
  rw[if_pos q,show(2:Int)^(m-i)=2*2^(m-1-i) by rw[show m-i=(m-1-i)+1 by omega,two_succ],show(2:Int)^m=2^(i+1)*2^(m-1-i) by rw[←Int.pow_add];congr 1;omega]
  have e:=two_succ i
  have le:=Int.mul_le_mul_of_nonneg_right (show 2*hlv p lo hi i+1≤2^(i+1) by omega) (Int.le_of_lt t)
  grind
 ·have b:=dct_bd p lo hi h
  unfold dsz
  rw[if_neg q];omega
theorem dsz_half2 {m i:Nat} (h:i<m):dsz m i/2=dsz m (i+1):=by
 have:=dsz_half h
 rwa[Int.tdiv_eq_ediv_of_nonneg (dsz_bd (m:=m) (i:=i)).1] at this
theorem moon_at (n z:Int):(((1024*n+z:Int)):Rat)/((1024:Int):Rat)=atR ((n:Int):Rat) (((n+1:Int)):Rat) z 1024:=by
 unfold atR
 simp only [Rat.intCast_add,Rat.intCast_mul]
 rw[show((1024:Int):Rat)=1024 from rfl,show((1:Int):Rat)=1 from rfl]
 generalize ((n:Int):Rat)=y
 generalize ((z:Int):Rat)=u
 grind
theorem moon_mid {n:Int} {i:Nat} (h:i<10):(((1024*n+dct wax ((n:Int):Rat) (((n+1:Int)):Rat) 10 i+dsz 10 i:Int)):Rat)/((1024:Int):Rat)=hmi wax ((n:Int):Rat) (((n+1:Int)):Rat) i:=by
 rw[←dct_mid wax ((n:Int):Rat) (((n+1:Int)):Rat) h,Int.add_assoc,moon_at]
 rfl
theorem moon_t {n:Int} {i:Nat} (h:i<10) (e:full ((((1024*n+dct wax ((n:Int):Rat) (((n+1:Int)):Rat) 10 i+dsz 10 i:Int)):Rat)/((1024:Int):Rat))=true):dct wax ((n:Int):Rat) (((n+1:Int)):Rat) 10 (i+1)=dct wax ((n:Int):Rat) (((n+1:Int)):Rat) 10 i+dsz 10 i:=by
 rw[moon_mid h] at e
 exact dct_f h (wax_f.2 e)
theorem moon_f {n:Int} {i:Nat} (h:i<10) (e:¬full ((((1024*n+dct wax ((n:Int):Rat) (((n+1:Int)):Rat) 10 i+dsz 10 i:Int)):Rat)/((1024:Int):Rat))=true):dct wax ((n:Int):Rat) (((n+1:Int)):Rat) 10 (i+1)=dct wax ((n:Int):Rat) (((n+1:Int)):Rat) 10 i:=by
 rw[moon_mid h] at e
 exact dct_t h (wax_t.2 (eq_false_of_ne_true e))
theorem where_t {c was:Int} {q1 q2:Rat} {i:Nat} (h:i<21) (e:kX c (atR q1 q2 (dct (notX c was) q1 q2 21 i+dsz 21 i) 2097152)=was):dct (notX c was) q1 q2 21 (i+1)=dct (notX c was) q1 q2 21 i+dsz 21 i:=by
 rw[show(2097152:Int)=2^21 from rfl,dct_mid _ _ _ h] at e
 exact dct_f h (decide_eq_false (fun x=>x e))
theorem where_f {c was:Int} {q1 q2:Rat} {i:Nat} (h:i<21) (e:¬kX c (atR q1 q2 (dct (notX c was) q1 q2 21 i+dsz 21 i) 2097152)=was):dct (notX c was) q1 q2 21 (i+1)=dct (notX c was) q1 q2 21 i:=by
 rw[show(2097152:Int)=2^21 from rfl,dct_mid _ _ _ h] at e
 exact dct_t h (decide_eq_true e)
theorem kX_same {c:Int} (h0:0≤c) (h1:c≤4) {x y:Rat} (e:kX c x=kX c y):kI c x=kI c y:=by rwa[kX_is h0 h1,kX_is h0 h1] at e
theorem kX_diff {c:Int} (h0:0≤c) (h1:c≤4) {x y:Rat} (e:kI c x=kI c y):kX c x=kX c y:=by rwa[kX_is h0 h1,kX_is h0 h1]
theorem rMoon15_any (n:Int) (w:World) (hn0: -1000000000≤n) (hn1:n≤1000000000):
 Calls Tryz.prog 17 #[.int .i64 n] w (ValPost w (.int .i64 (hlv wax ((n:Int):Rat) (((n+1:Int)):Rat) 10))):=by
 have st:=St.start w
 refine E.enter (nt:=21) (L:=[(0,.int .i64 n)]) Tryz.func17 rfl rfl rfl (args_cons (i:=0) rfl args_nil) ?_
 intro a hF
 refine wp_seq ?_
 refine E.seq ?_
 refine E.opv hF (r_assign ev_c) rfl rfl rfl rfl fun a hF=>?_
 refine E.nil ?_
 refine wp_seq ?_
 refine E.seq ?_
 refine E.opv hF (r_assign ev_c) rfl rfl rfl rfl fun a hF=>?_
 refine E.nil ?_
 refine wp_seq ?_
 refine wp_seq ?_
 refine E.seq ?_
 refine E.opv hF (r_assign ev_c) rfl rfl rfl rfl fun a hF=>?_
 refine E.nil ?_
 refine wp_block ?_
 replace hF:Fr 21 a [(4,.int .i64 (dsz 10 0)),(3,.int .i64 (dct wax ((n:Int):Rat) (((n+1:Int)):Rat) 10 0)),(2,.int .i64 0),(0,.int .i64 n)]:=by rw[show dct wax ((n:Int):Rat) (((n+1:Int)):Rat) 10 0=0 from dct_zero _ _ _ _];rw[show dsz 10 0=512 from by decide+kernel];exact hF
 refine E.loop (fun mq a wv=>∃(i:Nat),i≤10∧Fr 21 a [(4,.int .i64 (dsz 10 i)),(3,.int .i64 (dct wax ((n:Int):Rat) (((n+1:Int)):Rat) 10 i)),(2,.int .i64 0),(0,.int .i64 n)]∧St w wv [] []∧mq=10-i) ((10-0)) ?_ ?_
 ·exact⟨0,(Nat.zero_le _),Fr.pick (L':=[(4,.int .i64 (dsz 10 0)),(3,.int .i64 (dct wax ((n:Int):Rat) (((n+1:Int)):Rat) 10 0)),(2,.int .i64 0),(0,.int .i64 n)]) hF [0,1,2,3] rfl,st.pick [] [] rfl rfl (by decide),rfl⟩
 ·rintro mq a w1 ⟨i,hi,hF,st,hm⟩
  have hd:=dct_bd wax ((n:Int):Rat) (((n+1:Int)):Rat) (m:=10) (i:=i) hi
  have hs:=dsz_bd (m:=10) (i:=i)
  have hds:=dct_dsz wax ((n:Int):Rat) (((n+1:Int)):Rat) (m:=10) (i:=i) hi
  rw[show(2:Int)^10=1024 from by decide+kernel] at hd hs hds
  refine wp_seq ?_
  refine wp_seq ?_
  refine E.seq ?_
  refine E.opv hF (r_move (hF.at 0 rfl)) rfl rfl rfl rfl fun a hF=>?_
  by_cases hc2:0<dsz 10 i
  ·first
   |(exfalso;omega)
   |(refine E.opv hF (r_bin (hF.at 0 rfl) ev_c eg_scalar (bi_int (ic_gtr (c:=true) (dec_tt hc2)) (by simp))) rfl rfl rfl rfl fun a hF=>?_
     refine E.nil ?_
     refine wp_cond_true (hF.at 0 rfl) ?_
     refine wp_skip ?_
     refine E.norm ?_
     refine wp_seq ?_
     refine wp_block ?_
     refine wp_seq ?_
     refine E.seq ?_
     refine E.opv hF (r_move (hF.at 5 rfl)) rfl rfl rfl rfl fun a hF=>?_
     refine E.opv hF (r_bin ev_c (hF.at 0 rfl) eg_scalar (ia_mul (by omega) (by omega))) rfl rfl rfl rfl fun a hF=>?_
     refine E.opv hF (r_move (hF.at 5 rfl)) rfl rfl rfl rfl fun a hF=>?_
     refine E.opv hF (r_bin (hF.at 1 rfl) (hF.at 0 rfl) eg_scalar (ia_add (by omega) (by omega))) rfl rfl rfl rfl fun a hF=>?_
     refine E.opv hF (r_move (hF.at 6 rfl)) rfl rfl rfl rfl fun a hF=>?_
     refine E.opv hF (r_bin (hF.at 1 rfl) (hF.at 0 rfl) eg_scalar (ia_add (by omega) (by omega))) rfl rfl rfl rfl fun a hF=>?_
     refine S.call st hF (r_call Tryz.func16 en16.1 en16.2 (map2 (hF.at 0 rfl) ev_c)) (dOf_any (((1024*n)+(dct wax ((n:Int):Rat) (((n+1:Int)):Rat) 10 i))+(dsz 10 i)) (1024) _ (by omega) (by omega) (by decide) (by decide)) (fun _ _ h=>h) Rr.cl rfl rfl rfl rfl fun vv4 w3 a st hF=>?_
     obtain⟨b6,ad6,n6,c6,ae6,m6,d6,rfl⟩:=Rr.form (st.f 0 rfl)
     refine S.callx st hF (r_call Tryz.func48 en48.1 en48.2 (map1 (hF.at 0 rfl))) (rFull15_any _ _ 2 2 _ (st.f 0 rfl) (RLim.up (rlim_mk2 (limz_64 (by omega) (by omega)) (limz_64 (by decide) (by decide))) 2 (by decide)) (by omega) (by omega) (by omega)) rfl rfl rfl rfl fun w7 a st hF=>?_
     refine E.nil ?_
     by_cases hc8:full (((((1024*n)+(dct wax ((n:Int):Rat) (((n+1:Int)):Rat) 10 i))+(dsz 10 i):Int):Rat)/((1024:Int):Rat))=true
     ·first
      |(exfalso;omega)
      |(refine wp_cond_true (Eq.trans (hF.at 0 rfl) (congrArg Value.bool hc8)) ?_
        refine E.seq ?_
        refine E.opv hF (r_move (hF.at 11 rfl)) rfl rfl rfl rfl fun a hF=>?_
        refine E.opv hF (r_move (hF.at 11 rfl)) rfl rfl rfl rfl fun a hF=>?_
        refine E.opv hF (r_bin (hF.at 1 rfl) (hF.at 0 rfl) eg_scalar (ia_add (by omega) (by omega))) rfl rfl rfl rfl fun a hF=>?_
        refine E.opset (L':=[(3,.int .i64 ((dct wax ((n:Int):Rat) (((n+1:Int)):Rat) 10 i)+(dsz 10 i))),(19,.int .i64 ((dct wax ((n:Int):Rat) (((n+1:Int)):Rat) 10 i)+(dsz 10 i))),(18,.int .i64 (dsz 10 i)),(17,.int .i64 (dct wax ((n:Int):Rat) (((n+1:Int)):Rat) 10 i)),(16,.bool (full (((((1024*n)+(dct wax ((n:Int):Rat) (((n+1:Int)):Rat) 10 i))+(dsz 10 i):Int):Rat)/((1024:Int):Rat)))),(15,.agg #[.bool b6,.slice ad6 n6 c6,.slice ae6 m6 d6]),(14,.int .i64 (((1024*n)+(dct wax ((n:Int):Rat) (((n+1:Int)):Rat) 10 i))+(dsz 10 i))),(13,.int .i64 (dsz 10 i)),(12,.int .i64 ((1024*n)+(dct wax ((n:Int):Rat) (((n+1:Int)):Rat) 10 i))),(11,.int .i64 (dct wax ((n:Int):Rat) (((n+1:Int)):Rat) 10 i)),(10,.int .i64 (1024*n)),(9,.int .i64 n),(6,.bool true),(5,.int .i64 (dsz 10 i)),(4,.int .i64 (dsz 10 i)),(2,.int .i64 0),(0,.int .i64 n)]) hF (r_assign (hF.at 0 rfl)) rfl rfl rfl rfl fun a hF=>?_
        refine E.nil0 ?_
        refine E.blk ?_
        refine E.norm ?_
        refine E.seq ?_
        refine E.opv hF (r_move (hF.at 14 rfl)) rfl rfl rfl rfl fun a hF=>?_
        refine E.opv hF (r_bin (hF.at 0 rfl) ev_c eg_scalar (id_quon (a:=dsz 10 i) (b:=2) (by omega) (by omega) (by omega) (by omega))) rfl rfl rfl rfl fun a hF=>?_
        refine E.opset (L':=[(4,.int .i64 ((dsz 10 i)/2)),(8,.int .i64 ((dsz 10 i)/2)),(7,.int .i64 (dsz 10 i)),(3,.int .i64 ((dct wax ((n:Int):Rat) (((n+1:Int)):Rat) 10 i)+(dsz 10 i))),(19,.int .i64 ((dct wax ((n:Int):Rat) (((n+1:Int)):Rat) 10 i)+(dsz 10 i))),(18,.int .i64 (dsz 10 i)),(17,.int .i64 (dct wax ((n:Int):Rat) (((n+1:Int)):Rat) 10 i)),(16,.bool (full (((((1024*n)+(dct wax ((n:Int):Rat) (((n+1:Int)):Rat) 10 i))+(dsz 10 i):Int):Rat)/((1024:Int):Rat)))),(15,.agg #[.bool b6,.slice ad6 n6 c6,.slice ae6 m6 d6]),(14,.int .i64 (((1024*n)+(dct wax ((n:Int):Rat) (((n+1:Int)):Rat) 10 i))+(dsz 10 i))),(13,.int .i64 (dsz 10 i)),(12,.int .i64 ((1024*n)+(dct wax ((n:Int):Rat) (((n+1:Int)):Rat) 10 i))),(11,.int .i64 (dct wax ((n:Int):Rat) (((n+1:Int)):Rat) 10 i)),(10,.int .i64 (1024*n)),(9,.int .i64 n),(6,.bool true),(5,.int .i64 (dsz 10 i)),(2,.int .i64 0),(0,.int .i64 n)]) hF (r_assign (hF.at 0 rfl)) rfl rfl rfl rfl fun a hF=>?_
        refine E.nil0 ?_
        refine E.norm ?_
        replace hF:Fr 21 a [(4,.int .i64 (dsz 10 (i+1))),(8,.int .i64 ((dsz 10 i)/2)),(7,.int .i64 (dsz 10 i)),(3,.int .i64 (dct wax ((n:Int):Rat) (((n+1:Int)):Rat) 10 (i+1))),(19,.int .i64 ((dct wax ((n:Int):Rat) (((n+1:Int)):Rat) 10 i)+(dsz 10 i))),(18,.int .i64 (dsz 10 i)),(17,.int .i64 (dct wax ((n:Int):Rat) (((n+1:Int)):Rat) 10 i)),(16,.bool (full (((((1024*n)+(dct wax ((n:Int):Rat) (((n+1:Int)):Rat) 10 i))+(dsz 10 i):Int):Rat)/((1024:Int):Rat)))),(15,.agg #[.bool b6,.slice ad6 n6 c6,.slice ae6 m6 d6]),(14,.int .i64 (((1024*n)+(dct wax ((n:Int):Rat) (((n+1:Int)):Rat) 10 i))+(dsz 10 i))),(13,.int .i64 (dsz 10 i)),(12,.int .i64 ((1024*n)+(dct wax ((n:Int):Rat) (((n+1:Int)):Rat) 10 i))),(11,.int .i64 (dct wax ((n:Int):Rat) (((n+1:Int)):Rat) 10 i)),(10,.int .i64 (1024*n)),(9,.int .i64 n),(6,.bool true),(5,.int .i64 (dsz 10 i)),(2,.int .i64 0),(0,.int .i64 n)]:=by rw[show dct wax ((n:Int):Rat) (((n+1:Int)):Rat) 10 (i+1)=(dct wax ((n:Int):Rat) (((n+1:Int)):Rat) 10 i)+(dsz 10 i) from moon_t (dsz_pos.1 hc2) hc8];rw[show dsz 10 (i+1)=(dsz 10 i)/2 from(dsz_half2 (dsz_pos.1 hc2)).symm];exact hF
        have hlt:=dsz_pos.1 hc2
        exact⟨(10-(i+1)),by omega,⟨(i+1),(dsz_pos.1 hc2),Fr.pick (L':=[(4,.int .i64 (dsz 10 (i+1))),(3,.int .i64 (dct wax ((n:Int):Rat) (((n+1:Int)):Rat) 10 (i+1))),(2,.int .i64 0),(0,.int .i64 n)]) hF [0,3,17,18] rfl,st.pick [] [] rfl rfl (by decide),rfl⟩⟩)
     ·first
      |(exfalso;omega)
      |(refine wp_cond_false (Eq.trans (hF.at 0 rfl) (congrArg Value.bool (eq_false_of_ne_true hc8))) ?_
        refine wp_skip ?_
        refine E.blk ?_
        refine E.norm ?_
        refine E.seq ?_
        refine E.opv hF (r_move (hF.at 10 rfl)) rfl rfl rfl rfl fun a hF=>?_
        refine E.opv hF (r_bin (hF.at 0 rfl) ev_c eg_scalar (id_quon (a:=dsz 10 i) (b:=2) (by omega) (by omega) (by omega) (by omega))) rfl rfl rfl rfl fun a hF=>?_
        refine E.opset (L':=[(4,.int .i64 ((dsz 10 i)/2)),(8,.int .i64 ((dsz 10 i)/2)),(7,.int .i64 (dsz 10 i)),(16,.bool (full (((((1024*n)+(dct wax ((n:Int):Rat) (((n+1:Int)):Rat) 10 i))+(dsz 10 i):Int):Rat)/((1024:Int):Rat)))),(15,.agg #[.bool b6,.slice ad6 n6 c6,.slice ae6 m6 d6]),(14,.int .i64 (((1024*n)+(dct wax ((n:Int):Rat) (((n+1:Int)):Rat) 10 i))+(dsz 10 i))),(13,.int .i64 (dsz 10 i)),(12,.int .i64 ((1024*n)+(dct wax ((n:Int):Rat) (((n+1:Int)):Rat) 10 i))),(11,.int .i64 (dct wax ((n:Int):Rat) (((n+1:Int)):Rat) 10 i)),(10,.int .i64 (1024*n)),(9,.int .i64 n),(6,.bool true),(5,.int .i64 (dsz 10 i)),(3,.int .i64 (dct wax ((n:Int):Rat) (((n+1:Int)):Rat) 10 i)),(2,.int .i64 0),(0,.int .i64 n)]) hF (r_assign (hF.at 0 rfl)) rfl rfl rfl rfl fun a hF=>?_
        refine E.nil0 ?_
        refine E.norm ?_
        replace hF:Fr 21 a [(4,.int .i64 (dsz 10 (i+1))),(8,.int .i64 ((dsz 10 i)/2)),(7,.int .i64 (dsz 10 i)),(16,.bool (full (((((1024*n)+(dct wax ((n:Int):Rat) (((n+1:Int)):Rat) 10 i))+(dsz 10 i):Int):Rat)/((1024:Int):Rat)))),(15,.agg #[.bool b6,.slice ad6 n6 c6,.slice ae6 m6 d6]),(14,.int .i64 (((1024*n)+(dct wax ((n:Int):Rat) (((n+1:Int)):Rat) 10 i))+(dsz 10 i))),(13,.int .i64 (dsz 10 i)),(12,.int .i64 ((1024*n)+(dct wax ((n:Int):Rat) (((n+1:Int)):Rat) 10 i))),(11,.int .i64 (dct wax ((n:Int):Rat) (((n+1:Int)):Rat) 10 i)),(10,.int .i64 (1024*n)),(9,.int .i64 n),(6,.bool true),(5,.int .i64 (dsz 10 i)),(3,.int .i64 (dct wax ((n:Int):Rat) (((n+1:Int)):Rat) 10 (i+1))),(2,.int .i64 0),(0,.int .i64 n)]:=by rw[show dct wax ((n:Int):Rat) (((n+1:Int)):Rat) 10 (i+1)=dct wax ((n:Int):Rat) (((n+1:Int)):Rat) 10 i from moon_f (dsz_pos.1 hc2) hc8];rw[show dsz 10 (i+1)=(dsz 10 i)/2 from(dsz_half2 (dsz_pos.1 hc2)).symm];exact hF
        have hlt:=dsz_pos.1 hc2
        exact⟨(10-(i+1)),by omega,⟨(i+1),(dsz_pos.1 hc2),Fr.pick (L':=[(4,.int .i64 (dsz 10 (i+1))),(3,.int .i64 (dct wax ((n:Int):Rat) (((n+1:Int)):Rat) 10 (i+1))),(2,.int .i64 0),(0,.int .i64 n)]) hF [0,13,14,15] rfl,st.pick [] [] rfl rfl (by decide),rfl⟩⟩))
  ·first
   |(exfalso;omega)
   |(refine E.opv hF (r_bin (hF.at 0 rfl) ev_c eg_scalar (bi_int (ic_gtr (c:=false) (dec_ff hc2)) (by simp))) rfl rfl rfl rfl fun a hF=>?_
     refine E.nil ?_
     refine wp_cond_false (hF.at 0 rfl) ?_
     refine wp_exit ?_
     refine E.past ?_
     refine E.past ?_
     refine E.out (id:=0) ?_
     refine E.norm ?_
     refine wp_seq ?_
     refine E.seq ?_
     refine E.opv hF (r_move (hF.at 3 rfl)) rfl rfl rfl rfl fun a hF=>?_
     refine E.opset (L':=[(2,.int .i64 (dct wax ((n:Int):Rat) (((n+1:Int)):Rat) 10 i)),(20,.int .i64 (dct wax ((n:Int):Rat) (((n+1:Int)):Rat) 10 i)),(6,.bool false),(5,.int .i64 (dsz 10 i)),(4,.int .i64 (dsz 10 i)),(3,.int .i64 (dct wax ((n:Int):Rat) (((n+1:Int)):Rat) 10 i)),(0,.int .i64 n)]) hF (r_assign (hF.at 0 rfl)) rfl rfl rfl rfl fun a hF=>?_
     refine E.nil ?_
     refine wp_ret ?_
     have bel:=st.bel
     refine bodyPost_ret (res_tmp Tryz.results17 (hF.at 0 rfl)) hF.dfr ?_
     have hge:¬i<10:=fun e=>hc2 (dsz_pos.2 e)
     have e:i=10:=by omega
     subst e
     exact⟨rv_int (dct_end _ _ _ _),bel⟩)
theorem rWhere15_any (v1 v2:Value) (q1 q2:Rat) (k j:Nat) (c was:Int) (w:World) (h1:Rr w v1 q1 k) (h2:Rr w v2 q2 j) (hp:1≤k) (hp2:1≤j) (hk:k≤5) (hj:j≤5) (hkj:2*k+j≤16) (hal:∀z:Int,0≤z→z≤2097152→RLim (atR q1 q2 z 2097152) 3):
 Calls Tryz.prog 29 #[v1,v2,.int .i64 c,.int .i64 was] w (ValPost w (.int .i64 (hlv (notX c was) q1 q2 21))):=by
 obtain⟨b1,ad1,n1,c1,ae1,m1,d1,rfl⟩:=h1.form
 obtain⟨b2,ad2,n2,c2,ae2,m2,d2,rfl⟩:=h2.form
 have st:=St.start w
 refine E.enter (nt:=29) (L:=[(0,.agg #[.bool b1,.slice ad1 n1 c1,.slice ae1 m1 d1]),(1,.agg #[.bool b2,.slice ad2 n2 c2,.slice ae2 m2 d2]),(2,.int .i64 c),(3,.int .i64 was)]) Tryz.func29 rfl rfl rfl (args_cons (i:=0) rfl (args_cons (i:=1) rfl (args_cons (i:=2) rfl (args_cons (i:=3) rfl args_nil)))) ?_
 intro a hF
 refine wp_seq ?_
 refine E.seq ?_
 refine S.box st hF (hF.at 0 rfl) rfl rfl fun g4 w1 a st hF=>?_
 refine S.box st hF (hF.at 2 rfl) rfl rfl fun g5 w2 a st hF=>?_
 refine E.opv hF (r_assign ev_c) rfl rfl rfl rfl fun a hF=>?_
 refine E.nil ?_
 refine wp_seq ?_
 refine E.seq ?_
 refine E.opv hF (r_assign ev_c) rfl rfl rfl rfl fun a hF=>?_
 refine E.nil ?_
 refine wp_seq ?_
 refine wp_seq ?_
 refine E.seq ?_
 refine E.opv hF (r_assign ev_c) rfl rfl rfl rfl fun a hF=>?_
 refine E.nil ?_
 refine wp_block ?_
 replace hF:Fr 29 a [(10,.int .i64 (dsz 21 0)),(9,.int .i64 (dct (notX c was) q1 q2 21 0)),(8,.int .i64 0),(5,.pointer (some ⟨g5,0,none⟩)),(4,.pointer (some ⟨g4,0,none⟩)),(0,.agg #[.bool b1,.slice ad1 n1 c1,.slice ae1 m1 d1]),(1,.agg #[.bool b2,.slice ad2 n2 c2,.slice ae2 m2 d2]),(2,.int .i64 c),(3,.int .i64 was)]:=by rw[show dct (notX c was) q1 q2 21 0=0 from dct_zero _ _ _ _];rw[show dsz 21 0=1048576 from by decide+kernel];exact hF
 refine E.loop (fun mq a wv=>∃(i:Nat),i≤21∧Fr 29 a [(10,.int .i64 (dsz 21 i)),(9,.int .i64 (dct (notX c was) q1 q2 21 i)),(8,.int .i64 0),(5,.pointer (some ⟨g5,0,none⟩)),(4,.pointer (some ⟨g4,0,none⟩)),(2,.int .i64 c),(3,.int .i64 was)]∧St w wv [(g5,[.bool b2,.slice ad2 n2 c2,.slice ae2 m2 d2]),(g4,[.bool b1,.slice ad1 n1 c1,.slice ae1 m1 d1])] []∧mq=21-i) ((21-0)) ?_ ?_
 ·exact⟨0,(Nat.zero_le _),Fr.pick (L':=[(10,.int .i64 (dsz 21 0)),(9,.int .i64 (dct (notX c was) q1 q2 21 0)),(8,.int .i64 0),(5,.pointer (some ⟨g5,0,none⟩)),(4,.pointer (some ⟨g4,0,none⟩)),(2,.int .i64 c),(3,.int .i64 was)]) hF [0,1,2,3,4,7,8] rfl,st.pick [0,1] [] rfl rfl (by decide),rfl⟩
 ·rintro mq a w3 ⟨i,hi,hF,st,hm⟩
  have hd:=dct_bd (notX c was) q1 q2 (m:=21) (i:=i) hi
  have hs:=dsz_bd (m:=21) (i:=i)
  have hds:=dct_dsz (notX c was) q1 q2 (m:=21) (i:=i) hi
  rw[show(2:Int)^21=2097152 from by decide+kernel] at hd hs hds
  refine wp_seq ?_
  refine wp_seq ?_
  refine E.seq ?_
  refine E.opv hF (r_move (hF.at 0 rfl)) rfl rfl rfl rfl fun a hF=>?_
  by_cases hc4:0<dsz 21 i
  ·first
   |(exfalso;omega)
   |(refine E.opv hF (r_bin (hF.at 0 rfl) ev_c eg_scalar (bi_int (ic_gtr (c:=true) (dec_tt hc4)) (by simp))) rfl rfl rfl rfl fun a hF=>?_
     refine E.nil ?_
     refine wp_cond_true (hF.at 0 rfl) ?_
     refine wp_skip ?_
     refine E.norm ?_
     refine wp_seq ?_
     refine wp_block ?_
     refine wp_seq ?_
     refine E.seq ?_
     refine E.opv hF (r_move (hF.at 7 rfl)) rfl rfl rfl rfl fun a hF=>?_
     refine E.opv hF (r_load (hF.at 7 rfl) (ld_all ty_RRat (st.bk 1 rfl) rfl)) rfl rfl rfl rfl fun a hF=>?_
     refine E.opv hF (r_load (hF.at 7 rfl) (ld_all ty_RRat (st.bk 0 rfl) rfl)) rfl rfl rfl rfl fun a hF=>?_
     refine E.opv hF (r_move (hF.at 6 rfl)) rfl rfl rfl rfl fun a hF=>?_
     refine E.opv hF (r_move (hF.at 6 rfl)) rfl rfl rfl rfl fun a hF=>?_
     refine E.opv hF (r_bin (hF.at 1 rfl) (hF.at 0 rfl) eg_scalar (ia_add (by omega) (by omega))) rfl rfl rfl rfl fun a hF=>?_
     refine S.call st hF (r_call Tryz.func52 en52.1 en52.2 (map4s (hF.at 4 rfl) (hF.at 3 rfl) (hF.at 0 rfl) ev_c)) (rAt15_any _ _ (q1) (q2) k j ((dct (notX c was) q1 q2 21 i)+(dsz 21 i)) 2097152 _ (h1.below st.bel) (h2.below st.bel) (by omega) (by omega) (by omega) (by omega) (by omega) (by omega) (by omega) (by omega)) (fun _ _ h=>h) Rr.cl rfl rfl rfl rfl fun vv6 w5 a st hF=>?_
     obtain⟨b8,ad8,n8,c8,ae8,m8,d8,rfl⟩:=Rr.form (st.f 0 rfl)
     refine S.callx st hF (r_call Tryz.func26 en26.1 en26.2 (map2 (hF.at 6 rfl) (hF.at 0 rfl))) (rIndex15_any c _ _ (2*k+j+4) 3 _ (st.f 0 rfl) (hal _ (by omega) (by omega)) (by omega) (by omega) (by omega)) rfl rfl rfl rfl fun w9 a st hF=>?_
     have hkd79936:=kX_bd c (atR (q1) (q2) ((dct (notX c was) q1 q2 21 i)+(dsz 21 i)) 2097152)
     refine E.opv hF (r_move (hF.at 16 rfl)) rfl rfl rfl rfl fun a hF=>?_
     by_cases hc10:kX c (atR (q1) (q2) ((dct (notX c was) q1 q2 21 i)+(dsz 21 i)) 2097152)=was
     ·first
      |(exfalso;omega)
      |(refine E.opv hF (r_bin (hF.at 1 rfl) (hF.at 0 rfl) eg_scalar (bi_int (ic_eql (c:=true) (dec_tt hc10)) (by simp))) rfl rfl rfl rfl fun a hF=>?_
        refine E.nil ?_
        refine wp_cond_true (hF.at 0 rfl) ?_
        refine E.seq ?_
        refine E.opv hF (r_move (hF.at 13 rfl)) rfl rfl rfl rfl fun a hF=>?_
        refine E.opv hF (r_move (hF.at 13 rfl)) rfl rfl rfl rfl fun a hF=>?_
        refine E.opv hF (r_bin (hF.at 1 rfl) (hF.at 0 rfl) eg_scalar (ia_add (by omega) (by omega))) rfl rfl rfl rfl fun a hF=>?_
        refine E.opset (L':=[(9,.int .i64 ((dct (notX c was) q1 q2 21 i)+(dsz 21 i))),(27,.int .i64 ((dct (notX c was) q1 q2 21 i)+(dsz 21 i))),(26,.int .i64 (dsz 21 i)),(25,.int .i64 (dct (notX c was) q1 q2 21 i)),(24,.bool true),(23,.int .i64 was),(22,.int .i64 (kX c (atR (q1) (q2) ((dct (notX c was) q1 q2 21 i)+(dsz 21 i)) 2097152))),(21,.agg #[.bool b8,.slice ad8 n8 c8,.slice ae8 m8 d8]),(20,.int .i64 ((dct (notX c was) q1 q2 21 i)+(dsz 21 i))),(19,.int .i64 (dsz 21 i)),(18,.int .i64 (dct (notX c was) q1 q2 21 i)),(17,.agg #[.bool b2,.slice ad2 n2 c2,.slice ae2 m2 d2]),(16,.agg #[.bool b1,.slice ad1 n1 c1,.slice ae1 m1 d1]),(15,.int .i64 c),(12,.bool true),(11,.int .i64 (dsz 21 i)),(10,.int .i64 (dsz 21 i)),(8,.int .i64 0),(5,.pointer (some ⟨g5,0,none⟩)),(4,.pointer (some ⟨g4,0,none⟩)),(2,.int .i64 c),(3,.int .i64 was)]) hF (r_assign (hF.at 0 rfl)) rfl rfl rfl rfl fun a hF=>?_
        refine E.nil0 ?_
        refine E.blk ?_
        refine E.norm ?_
        refine E.seq ?_
        refine E.opv hF (r_move (hF.at 16 rfl)) rfl rfl rfl rfl fun a hF=>?_
        refine E.opv hF (r_bin (hF.at 0 rfl) ev_c eg_scalar (id_quon (a:=dsz 21 i) (b:=2) (by omega) (by omega) (by omega) (by omega))) rfl rfl rfl rfl fun a hF=>?_
        refine E.opset (L':=[(10,.int .i64 ((dsz 21 i)/2)),(14,.int .i64 ((dsz 21 i)/2)),(13,.int .i64 (dsz 21 i)),(9,.int .i64 ((dct (notX c was) q1 q2 21 i)+(dsz 21 i))),(27,.int .i64 ((dct (notX c was) q1 q2 21 i)+(dsz 21 i))),(26,.int .i64 (dsz 21 i)),(25,.int .i64 (dct (notX c was) q1 q2 21 i)),(24,.bool true),(23,.int .i64 was),(22,.int .i64 (kX c (atR (q1) (q2) ((dct (notX c was) q1 q2 21 i)+(dsz 21 i)) 2097152))),(21,.agg #[.bool b8,.slice ad8 n8 c8,.slice ae8 m8 d8]),(20,.int .i64 ((dct (notX c was) q1 q2 21 i)+(dsz 21 i))),(19,.int .i64 (dsz 21 i)),(18,.int .i64 (dct (notX c was) q1 q2 21 i)),(17,.agg #[.bool b2,.slice ad2 n2 c2,.slice ae2 m2 d2]),(16,.agg #[.bool b1,.slice ad1 n1 c1,.slice ae1 m1 d1]),(15,.int .i64 c),(12,.bool true),(11,.int .i64 (dsz 21 i)),(8,.int .i64 0),(5,.pointer (some ⟨g5,0,none⟩)),(4,.pointer (some ⟨g4,0,none⟩)),(2,.int .i64 c),(3,.int .i64 was)]) hF (r_assign (hF.at 0 rfl)) rfl rfl rfl rfl fun a hF=>?_
        refine E.nil0 ?_
        refine E.norm ?_
        replace hF:Fr 29 a [(10,.int .i64 (dsz 21 (i+1))),(14,.int .i64 ((dsz 21 i)/2)),(13,.int .i64 (dsz 21 i)),(9,.int .i64 (dct (notX c was) q1 q2 21 (i+1))),(27,.int .i64 ((dct (notX c was) q1 q2 21 i)+(dsz 21 i))),(26,.int .i64 (dsz 21 i)),(25,.int .i64 (dct (notX c was) q1 q2 21 i)),(24,.bool true),(23,.int .i64 was),(22,.int .i64 (kX c (atR (q1) (q2) ((dct (notX c was) q1 q2 21 i)+(dsz 21 i)) 2097152))),(21,.agg #[.bool b8,.slice ad8 n8 c8,.slice ae8 m8 d8]),(20,.int .i64 ((dct (notX c was) q1 q2 21 i)+(dsz 21 i))),(19,.int .i64 (dsz 21 i)),(18,.int .i64 (dct (notX c was) q1 q2 21 i)),(17,.agg #[.bool b2,.slice ad2 n2 c2,.slice ae2 m2 d2]),(16,.agg #[.bool b1,.slice ad1 n1 c1,.slice ae1 m1 d1]),(15,.int .i64 c),(12,.bool true),(11,.int .i64 (dsz 21 i)),(8,.int .i64 0),(5,.pointer (some ⟨g5,0,none⟩)),(4,.pointer (some ⟨g4,0,none⟩)),(2,.int .i64 c),(3,.int .i64 was)]:=by rw[show dct (notX c was) q1 q2 21 (i+1)=(dct (notX c was) q1 q2 21 i)+(dsz 21 i) from where_t (dsz_pos.1 hc4) hc10];rw[show dsz 21 (i+1)=(dsz 21 i)/2 from(dsz_half2 (dsz_pos.1 hc4)).symm];exact hF
        have hlt:=dsz_pos.1 hc4
        exact⟨(21-(i+1)),by omega,⟨(i+1),(dsz_pos.1 hc4),Fr.pick (L':=[(10,.int .i64 (dsz 21 (i+1))),(9,.int .i64 (dct (notX c was) q1 q2 21 (i+1))),(8,.int .i64 0),(5,.pointer (some ⟨g5,0,none⟩)),(4,.pointer (some ⟨g4,0,none⟩)),(2,.int .i64 c),(3,.int .i64 was)]) hF [0,3,19,20,21,22,23] rfl,st.pick [0,1] [] rfl rfl (by decide),rfl⟩⟩)
     ·first
      |(exfalso;omega)
      |(refine E.opv hF (r_bin (hF.at 1 rfl) (hF.at 0 rfl) eg_scalar (bi_int (ic_eql (c:=false) (dec_ff hc10)) (by simp))) rfl rfl rfl rfl fun a hF=>?_
        refine E.nil ?_
        refine wp_cond_false (hF.at 0 rfl) ?_
        refine wp_skip ?_
        refine E.blk ?_
        refine E.norm ?_
        refine E.seq ?_
        refine E.opv hF (r_move (hF.at 12 rfl)) rfl rfl rfl rfl fun a hF=>?_
        refine E.opv hF (r_bin (hF.at 0 rfl) ev_c eg_scalar (id_quon (a:=dsz 21 i) (b:=2) (by omega) (by omega) (by omega) (by omega))) rfl rfl rfl rfl fun a hF=>?_
        refine E.opset (L':=[(10,.int .i64 ((dsz 21 i)/2)),(14,.int .i64 ((dsz 21 i)/2)),(13,.int .i64 (dsz 21 i)),(24,.bool false),(23,.int .i64 was),(22,.int .i64 (kX c (atR (q1) (q2) ((dct (notX c was) q1 q2 21 i)+(dsz 21 i)) 2097152))),(21,.agg #[.bool b8,.slice ad8 n8 c8,.slice ae8 m8 d8]),(20,.int .i64 ((dct (notX c was) q1 q2 21 i)+(dsz 21 i))),(19,.int .i64 (dsz 21 i)),(18,.int .i64 (dct (notX c was) q1 q2 21 i)),(17,.agg #[.bool b2,.slice ad2 n2 c2,.slice ae2 m2 d2]),(16,.agg #[.bool b1,.slice ad1 n1 c1,.slice ae1 m1 d1]),(15,.int .i64 c),(12,.bool true),(11,.int .i64 (dsz 21 i)),(9,.int .i64 (dct (notX c was) q1 q2 21 i)),(8,.int .i64 0),(5,.pointer (some ⟨g5,0,none⟩)),(4,.pointer (some ⟨g4,0,none⟩)),(2,.int .i64 c),(3,.int .i64 was)]) hF (r_assign (hF.at 0 rfl)) rfl rfl rfl rfl fun a hF=>?_
        refine E.nil0 ?_
        refine E.norm ?_
        replace hF:Fr 29 a [(10,.int .i64 (dsz 21 (i+1))),(14,.int .i64 ((dsz 21 i)/2)),(13,.int .i64 (dsz 21 i)),(24,.bool false),(23,.int .i64 was),(22,.int .i64 (kX c (atR (q1) (q2) ((dct (notX c was) q1 q2 21 i)+(dsz 21 i)) 2097152))),(21,.agg #[.bool b8,.slice ad8 n8 c8,.slice ae8 m8 d8]),(20,.int .i64 ((dct (notX c was) q1 q2 21 i)+(dsz 21 i))),(19,.int .i64 (dsz 21 i)),(18,.int .i64 (dct (notX c was) q1 q2 21 i)),(17,.agg #[.bool b2,.slice ad2 n2 c2,.slice ae2 m2 d2]),(16,.agg #[.bool b1,.slice ad1 n1 c1,.slice ae1 m1 d1]),(15,.int .i64 c),(12,.bool true),(11,.int .i64 (dsz 21 i)),(9,.int .i64 (dct (notX c was) q1 q2 21 (i+1))),(8,.int .i64 0),(5,.pointer (some ⟨g5,0,none⟩)),(4,.pointer (some ⟨g4,0,none⟩)),(2,.int .i64 c),(3,.int .i64 was)]:=by rw[show dct (notX c was) q1 q2 21 (i+1)=dct (notX c was) q1 q2 21 i from where_f (dsz_pos.1 hc4) hc10];rw[show dsz 21 (i+1)=(dsz 21 i)/2 from(dsz_half2 (dsz_pos.1 hc4)).symm];exact hF
        have hlt:=dsz_pos.1 hc4
        exact⟨(21-(i+1)),by omega,⟨(i+1),(dsz_pos.1 hc4),Fr.pick (L':=[(10,.int .i64 (dsz 21 (i+1))),(9,.int .i64 (dct (notX c was) q1 q2 21 (i+1))),(8,.int .i64 0),(5,.pointer (some ⟨g5,0,none⟩)),(4,.pointer (some ⟨g4,0,none⟩)),(2,.int .i64 c),(3,.int .i64 was)]) hF [0,15,16,17,18,19,20] rfl,st.pick [0,1] [] rfl rfl (by decide),rfl⟩⟩))
  ·first
   |(exfalso;omega)
   |(refine E.opv hF (r_bin (hF.at 0 rfl) ev_c eg_scalar (bi_int (ic_gtr (c:=false) (dec_ff hc4)) (by simp))) rfl rfl rfl rfl fun a hF=>?_
     refine E.nil ?_
     refine wp_cond_false (hF.at 0 rfl) ?_
     refine wp_exit ?_
     refine E.past ?_
     refine E.past ?_
     refine E.out (id:=0) ?_
     refine E.norm ?_
     refine wp_seq ?_
     refine E.seq ?_
     refine E.opv hF (r_move (hF.at 3 rfl)) rfl rfl rfl rfl fun a hF=>?_
     refine E.opset (L':=[(8,.int .i64 (dct (notX c was) q1 q2 21 i)),(28,.int .i64 (dct (notX c was) q1 q2 21 i)),(12,.bool false),(11,.int .i64 (dsz 21 i)),(10,.int .i64 (dsz 21 i)),(9,.int .i64 (dct (notX c was) q1 q2 21 i)),(5,.pointer (some ⟨g5,0,none⟩)),(4,.pointer (some ⟨g4,0,none⟩)),(2,.int .i64 c),(3,.int .i64 was)]) hF (r_assign (hF.at 0 rfl)) rfl rfl rfl rfl fun a hF=>?_
     refine E.nil ?_
     refine wp_ret ?_
     have bel:=st.bel
     refine bodyPost_ret (res_tmp Tryz.results29 (hF.at 0 rfl)) hF.dfr ?_
     have hge:¬i<21:=fun e=>hc4 (dsz_pos.2 e)
     have e:i=21:=by omega
     subst e
     exact⟨rv_int (dct_end _ _ _ _),bel⟩)
theorem rPiece15_any (c:Int) (v1:Value) (q1:Rat) (k i_:Nat) (w:World) (h1:Rr w v1 q1 k) (li1:RLim q1 i_) (hp:1≤k) (hk:k≤5) (hi_:i_≤3) (hc0:0≤c) (hc1:c≤4) (hal:∀z:Int,0≤z→z≤1000→RLim (pcs c q1 z) 3):
 Calls Tryz.prog 34 #[.int .i64 c,v1,.int .i64 (ov c),.int .i64 (kM c)] w (ValPost w (.int .i64 ((pieceV c q1:Nat):Int))):=by
 obtain⟨b1,ad1,n1,c1,ae1,m1,d1,rfl⟩:=h1.form
 have hov:=ov_bd c
 have st:=St.start w
 refine E.enter (nt:=32) (L:=[(0,.int .i64 c),(1,.agg #[.bool b1,.slice ad1 n1 c1,.slice ae1 m1 d1]),(2,.int .i64 (ov c)),(3,.int .i64 (kM c))]) Tryz.func34 rfl rfl rfl (args_cons (i:=0) rfl (args_cons (i:=1) rfl (args_cons (i:=2) rfl (args_cons (i:=3) rfl args_nil)))) ?_
 intro a hF
 refine wp_seq ?_
 refine E.seq ?_
 refine S.box st hF (hF.at 1 rfl) rfl rfl fun g5 w1 a st hF=>?_
 refine E.opv hF (r_assign ev_c) rfl rfl rfl rfl fun a hF=>?_
 refine E.nil ?_
 refine wp_seq ?_
 refine E.seq ?_
 refine E.opv hF (r_move (hF.at 2 rfl)) rfl rfl rfl rfl fun a hF=>?_
 refine E.opv hF (r_load (hF.at 2 rfl) (ld_all ty_RRat (st.bk 0 rfl) rfl)) rfl rfl rfl rfl fun a hF=>?_
 refine S.callx st hF (r_call Tryz.func26 en26.1 en26.2 (map2 (hF.at 1 rfl) (hF.at 0 rfl))) (rIndex15_any c _ (q1) k i_ _ (h1.below st.bel) li1 (by omega) (by omega) (by omega)) rfl rfl rfl rfl fun w2 a st hF=>?_
 have hkd37482:=kX_bd c (q1)
 refine E.opv hF (r_assign (hF.at 0 rfl)) rfl rfl rfl rfl fun a hF=>?_
 refine E.nil ?_
 refine wp_seq ?_
 refine E.seq ?_
 refine E.opv hF (r_assign ev_c) rfl rfl rfl rfl fun a hF=>?_
 refine E.nil ?_
 refine wp_seq ?_
 refine wp_block ?_
 replace hF:Fr 32 a [(10,.int .i64 ((0:Nat):Int)),(9,.int .i64 (kX c (q1))),(13,.int .i64 (kX c (q1))),(12,.agg #[.bool b1,.slice ad1 n1 c1,.slice ae1 m1 d1]),(11,.int .i64 c),(8,.int .i64 0),(5,.pointer (some ⟨g5,0,none⟩)),(0,.int .i64 c),(1,.agg #[.bool b1,.slice ad1 n1 c1,.slice ae1 m1 d1]),(2,.int .i64 (ov c)),(3,.int .i64 (kM c))]:=by rw[show(((0:Nat)):Int)=0 from rfl];exact hF
 refine E.loop (fun mq a wv=>∃(i:Nat),i≤pieceV c q1∧Fr 32 a [(10,.int .i64 ((i:Nat):Int)),(9,.int .i64 (kX c (q1))),(8,.int .i64 0),(5,.pointer (some ⟨g5,0,none⟩)),(0,.int .i64 c),(2,.int .i64 (ov c)),(3,.int .i64 (kM c))]∧St w wv [(g5,[.bool b1,.slice ad1 n1 c1,.slice ae1 m1 d1])] []∧mq=40-i) ((40-0)) ?_ ?_
 ·exact⟨0,(Nat.zero_le _),Fr.pick (L':=[(10,.int .i64 ((0:Nat):Int)),(9,.int .i64 (kX c (q1))),(8,.int .i64 0),(5,.pointer (some ⟨g5,0,none⟩)),(0,.int .i64 c),(2,.int .i64 (ov c)),(3,.int .i64 (kM c))]) hF [0,1,5,6,7,9,10] rfl,st.pick [0] [] rfl rfl (by decide),rfl⟩
 ·rintro mq a w3 ⟨i,hi,hF,st,hm⟩
  have hps:=(piece_spec hc0 hc1 q1).1
  have hkm:=kM_bd c
  have hov:=ov_bd c
  refine wp_seq ?_
  refine wp_seq ?_
  by_cases hc4:kX c (pcs c q1 (((i:Nat):Int)+1))=kX c (q1)
  ·first
   |(exfalso;omega)
   |(refine E.drawn 15 mixed hF [14,15,16,17,18,19,20,21,22,23,24,25,26,27,28] [(fun _ v=>v= .int .i64 ((i:Nat):Int)),(fun _ v=>v= .int .i64 (kM c)),(fun _ v=>v= .bool true),(fun _ v=>v= .bool true),(fun _ v=>v= .int .i64 c),(fun _ v=>v= .agg #[.bool b1,.slice ad1 n1 c1,.slice ae1 m1 d1]),(fun _ v=>v= .int .i64 ((i:Nat):Int)),(fun _ v=>v= .int .i64 (((i:Nat):Int)+1)),(fun _ v=>v= .int .i64 (ov c)),(fun w v=>Rr w v (((((i:Nat):Int)+1:Int):Rat)/((ov c:Int):Rat)) (2)),(fun w v=>Rr w v (pcs c q1 (((i:Nat):Int)+1)) ((k+2+1))),(fun _ v=>v= .int .i64 (kX c (pcs c q1 (((i:Nat):Int)+1)))),(fun _ v=>v= .int .i64 (kX c (q1))),(fun _ v=>v= .bool true),(fun _ v=>v= .bool true)] [] (by decide+kernel) (by decide+kernel) rfl rfl rfl ⟨(Mb.eq _),(Mb.eq _),(Mb.eq _),(Mb.eq _),(Mb.eq _),(Mb.eq _),(Mb.eq _),(Mb.eq _),(Mb.eq _),(fun _ _ _ h hb=>h.below hb),(fun _ _ _ h hb=>h.below hb),(Mb.eq _),(Mb.eq _),(Mb.eq _),(Mb.eq _),trivial⟩ trivial ⟨?_,?_,?_,?_,?_,?_,?_,?_,?_,?_,?_,?_,?_,?_,?_,trivial⟩ ?_
     ·intro a' w' hF' hb hd
      exact dv0 (r_move (hF'.at 0 rfl)) rfl rfl rfl
     ·intro a' w' hF' hb hd
      exact dv0 (r_move (hF'.at 6 rfl)) rfl rfl rfl
     ·intro a' w' hF' hb hd
      have e14:=sHe hd 0 14 rfl rfl rfl rfl
      have e15:=sHe hd 1 15 rfl rfl rfl rfl
      exact dv0 (r_bin e14 e15 eg_scalar (bi_int (ic_lss (c:=true) (dec_tt (by omega))) (by simp))) rfl rfl rfl
     ·intro a' w' hF' hb hd
      have e16:=sHe hd 0 16 rfl rfl rfl rfl
      exact dv0 (r_move e16) rfl rfl rfl
     ·intro a' w' hF' hb hd
      have e17:=sHe hd 0 17 rfl rfl rfl rfl
      exact dv1 (wanted_by rfl rfl e17 rfl) (r_move (hF'.at 4 rfl)) rfl rfl
     ·intro a' w' hF' hb hd
      have e17:=sHe hd 0 17 rfl rfl rfl rfl
      exact dv1 (wanted_by rfl rfl e17 rfl) (r_load (hF'.at 3 rfl) (ld_all ty_RRat ((st.bk 0 rfl).below hb) rfl)) rfl rfl
     ·intro a' w' hF' hb hd
      have e17:=sHe hd 0 17 rfl rfl rfl rfl
      exact dv1 (wanted_by rfl rfl e17 rfl) (r_move (hF'.at 0 rfl)) rfl rfl
     ·intro a' w' hF' hb hd
      have e17:=sHe hd 1 17 rfl rfl rfl rfl
      have e20:=sHe hd 0 20 rfl rfl rfl rfl
      exact dv1 (wanted_by rfl rfl e17 rfl) (r_bin e20 ev_c eg_scalar (ia_add (by omega) (by omega))) rfl rfl
     ·intro a' w' hF' hb hd
      have e17:=sHe hd 0 17 rfl rfl rfl rfl
      exact dv1 (wanted_by rfl rfl e17 rfl) (r_move (hF'.at 5 rfl)) rfl rfl
     ·intro a' w' hF' hb hd
      have e17:=sHe hd 2 17 rfl rfl rfl rfl
      have e21:=sHe hd 0 21 rfl rfl rfl rfl
      have e22:=sHe hd 1 22 rfl rfl rfl rfl
      exact dc1 (wanted_by rfl rfl e17 rfl) (r_call Tryz.func16 en16.1 en16.2 (map2 e21 e22)) (dOf_any (((i:Nat):Int)+1) (ov c) _ (by omega) (by omega) (by omega) (by omega)) rfl
     ·intro a' w' hF' hb hd
      have e17:=sHe hd 3 17 rfl rfl rfl rfl
      have e19:=sHe hd 0 19 rfl rfl rfl rfl
      obtain⟨v23_0,e23,h23_1⟩:=sH hd 1 23 rfl rfl rfl rfl
      exact dc1 (wanted_by rfl rfl e17 rfl) (r_call Tryz.func35 en35.1 en35.2 (map2 e19 e23)) (dAdd2_any _ _ (q1) _ k 2 _ (h1.below (below_to st.bel hb)) h23_1 (by omega) (by omega) (by omega) (by omega)) rfl
     ·intro a' w' hF' hb hd
      have e17:=sHe hd 3 17 rfl rfl rfl rfl
      have e18:=sHe hd 0 18 rfl rfl rfl rfl
      obtain⟨v24_0,e24,h24_1⟩:=sH hd 1 24 rfl rfl rfl rfl
      exact dcx1 (wanted_by rfl rfl e17 rfl) (r_call Tryz.func26 en26.1 en26.2 (map2 e18 e24)) (rIndex15_any c _ _ (k+2+1) 3 _ h24_1 (hal _ (by omega) (by omega)) (by omega) (by omega) (by omega)) (fun _=>rfl) rfl
     ·intro a' w' hF' hb hd
      have e17:=sHe hd 0 17 rfl rfl rfl rfl
      exact dv1 (wanted_by rfl rfl e17 rfl) (r_move (hF'.at 1 rfl)) rfl rfl
     ·intro a' w' hF' hb hd
      have e17:=sHe hd 2 17 rfl rfl rfl rfl
      have e25:=sHe hd 0 25 rfl rfl rfl rfl
      have hkd86064:=kX_bd c (pcs c q1 (((i:Nat):Int)+1))
      have e26:=sHe hd 1 26 rfl rfl rfl rfl
      exact dv1 (wanted_by rfl rfl e17 rfl) (r_bin e25 e26 eg_scalar (bi_int (ic_eql (c:=true) (dec_tt hc4)) (by simp))) rfl rfl
     ·intro a' w' hF' hb hd
      have e17:=sHe hd 0 17 rfl rfl rfl rfl
      have e27:=sHe hd 1 27 rfl rfl rfl rfl
      exact dv0 (r_pick_t e17 e27) rfl rfl rfl
     intro a w5 hF bb hall hne
     replace st:=st.to bb
     have e28:=sSe hall 14 28 rfl rfl
     clear hall hne bb
     replace hF:=hF.add e28
     clear e28
     refine E.nil ?_
     refine wp_cond_true (hF.at 0 rfl) ?_
     refine wp_skip ?_
     refine E.norm ?_
     refine wp_block ?_
     refine E.seq ?_
     refine E.opv hF (r_move (hF.at 1 rfl)) rfl rfl rfl rfl fun a hF=>?_
     refine E.opv hF (r_bin (hF.at 0 rfl) ev_c eg_scalar (ia_add (by omega) (by omega))) rfl rfl rfl rfl fun a hF=>?_
     refine E.opset (L':=[(10,.int .i64 (((i:Nat):Int)+1)),(30,.int .i64 (((i:Nat):Int)+1)),(29,.int .i64 ((i:Nat):Int)),(28,.bool true),(9,.int .i64 (kX c (q1))),(8,.int .i64 0),(5,.pointer (some ⟨g5,0,none⟩)),(0,.int .i64 c),(2,.int .i64 (ov c)),(3,.int .i64 (kM c))]) hF (r_assign (hF.at 0 rfl)) rfl rfl rfl rfl fun a hF=>?_
     refine E.nil0 ?_
     refine E.blk ?_
     refine E.norm ?_
     replace hF:Fr 32 a [(10,.int .i64 ((i+1:Nat):Int)),(30,.int .i64 (((i:Nat):Int)+1)),(29,.int .i64 ((i:Nat):Int)),(28,.bool true),(9,.int .i64 (kX c (q1))),(8,.int .i64 0),(5,.pointer (some ⟨g5,0,none⟩)),(0,.int .i64 c),(2,.int .i64 (ov c)),(3,.int .i64 (kM c))]:=by rw[show((i+1:Nat):Int)=((i:Nat):Int)+1 from by omega];exact hF
     exact⟨(40-(i+1)),by omega,⟨(i+1),(piece_go hc0 hc1 hi (kX_same hc0 hc1 hc4)),Fr.pick (L':=[(10,.int .i64 ((i+1:Nat):Int)),(9,.int .i64 (kX c (q1))),(8,.int .i64 0),(5,.pointer (some ⟨g5,0,none⟩)),(0,.int .i64 c),(2,.int .i64 (ov c)),(3,.int .i64 (kM c))]) hF [0,4,5,6,7,8,9] rfl,st.pick [0] [] rfl rfl (by decide),rfl⟩⟩)
  ·first
   |(exfalso;omega)
   |(refine E.drawn 15 mixed hF [14,15,16,17,18,19,20,21,22,23,24,25,26,27,28] [(fun _ v=>v= .int .i64 ((i:Nat):Int)),(fun _ v=>v= .int .i64 (kM c)),(fun _ v=>v= .bool true),(fun _ v=>v= .bool true),(fun _ v=>v= .int .i64 c),(fun _ v=>v= .agg #[.bool b1,.slice ad1 n1 c1,.slice ae1 m1 d1]),(fun _ v=>v= .int .i64 ((i:Nat):Int)),(fun _ v=>v= .int .i64 (((i:Nat):Int)+1)),(fun _ v=>v= .int .i64 (ov c)),(fun w v=>Rr w v (((((i:Nat):Int)+1:Int):Rat)/((ov c:Int):Rat)) (2)),(fun w v=>Rr w v (pcs c q1 (((i:Nat):Int)+1)) ((k+2+1))),(fun _ v=>v= .int .i64 (kX c (pcs c q1 (((i:Nat):Int)+1)))),(fun _ v=>v= .int .i64 (kX c (q1))),(fun _ v=>v= .bool false),(fun _ v=>v= .bool false)] [] (by decide+kernel) (by decide+kernel) rfl rfl rfl ⟨(Mb.eq _),(Mb.eq _),(Mb.eq _),(Mb.eq _),(Mb.eq _),(Mb.eq _),(Mb.eq _),(Mb.eq _),(Mb.eq _),(fun _ _ _ h hb=>h.below hb),(fun _ _ _ h hb=>h.below hb),(Mb.eq _),(Mb.eq _),(Mb.eq _),(Mb.eq _),trivial⟩ trivial ⟨?_,?_,?_,?_,?_,?_,?_,?_,?_,?_,?_,?_,?_,?_,?_,trivial⟩ ?_
     ·intro a' w' hF' hb hd
      exact dv0 (r_move (hF'.at 0 rfl)) rfl rfl rfl
     ·intro a' w' hF' hb hd
      exact dv0 (r_move (hF'.at 6 rfl)) rfl rfl rfl
     ·intro a' w' hF' hb hd
      have e14:=sHe hd 0 14 rfl rfl rfl rfl
      have e15:=sHe hd 1 15 rfl rfl rfl rfl
      exact dv0 (r_bin e14 e15 eg_scalar (bi_int (ic_lss (c:=true) (dec_tt (by omega))) (by simp))) rfl rfl rfl
     ·intro a' w' hF' hb hd
      have e16:=sHe hd 0 16 rfl rfl rfl rfl
      exact dv0 (r_move e16) rfl rfl rfl
     ·intro a' w' hF' hb hd
      have e17:=sHe hd 0 17 rfl rfl rfl rfl
      exact dv1 (wanted_by rfl rfl e17 rfl) (r_move (hF'.at 4 rfl)) rfl rfl
     ·intro a' w' hF' hb hd
      have e17:=sHe hd 0 17 rfl rfl rfl rfl
      exact dv1 (wanted_by rfl rfl e17 rfl) (r_load (hF'.at 3 rfl) (ld_all ty_RRat ((st.bk 0 rfl).below hb) rfl)) rfl rfl
     ·intro a' w' hF' hb hd
      have e17:=sHe hd 0 17 rfl rfl rfl rfl
      exact dv1 (wanted_by rfl rfl e17 rfl) (r_move (hF'.at 0 rfl)) rfl rfl
     ·intro a' w' hF' hb hd
      have e17:=sHe hd 1 17 rfl rfl rfl rfl
      have e20:=sHe hd 0 20 rfl rfl rfl rfl
      exact dv1 (wanted_by rfl rfl e17 rfl) (r_bin e20 ev_c eg_scalar (ia_add (by omega) (by omega))) rfl rfl
     ·intro a' w' hF' hb hd
      have e17:=sHe hd 0 17 rfl rfl rfl rfl
      exact dv1 (wanted_by rfl rfl e17 rfl) (r_move (hF'.at 5 rfl)) rfl rfl
     ·intro a' w' hF' hb hd
      have e17:=sHe hd 2 17 rfl rfl rfl rfl
      have e21:=sHe hd 0 21 rfl rfl rfl rfl
      have e22:=sHe hd 1 22 rfl rfl rfl rfl
      exact dc1 (wanted_by rfl rfl e17 rfl) (r_call Tryz.func16 en16.1 en16.2 (map2 e21 e22)) (dOf_any (((i:Nat):Int)+1) (ov c) _ (by omega) (by omega) (by omega) (by omega)) rfl
     ·intro a' w' hF' hb hd
      have e17:=sHe hd 3 17 rfl rfl rfl rfl
      have e19:=sHe hd 0 19 rfl rfl rfl rfl
      obtain⟨v23_0,e23,h23_1⟩:=sH hd 1 23 rfl rfl rfl rfl
      exact dc1 (wanted_by rfl rfl e17 rfl) (r_call Tryz.func35 en35.1 en35.2 (map2 e19 e23)) (dAdd2_any _ _ (q1) _ k 2 _ (h1.below (below_to st.bel hb)) h23_1 (by omega) (by omega) (by omega) (by omega)) rfl
     ·intro a' w' hF' hb hd
      have e17:=sHe hd 3 17 rfl rfl rfl rfl
      have e18:=sHe hd 0 18 rfl rfl rfl rfl
      obtain⟨v24_0,e24,h24_1⟩:=sH hd 1 24 rfl rfl rfl rfl
      exact dcx1 (wanted_by rfl rfl e17 rfl) (r_call Tryz.func26 en26.1 en26.2 (map2 e18 e24)) (rIndex15_any c _ _ (k+2+1) 3 _ h24_1 (hal _ (by omega) (by omega)) (by omega) (by omega) (by omega)) (fun _=>rfl) rfl
     ·intro a' w' hF' hb hd
      have e17:=sHe hd 0 17 rfl rfl rfl rfl
      exact dv1 (wanted_by rfl rfl e17 rfl) (r_move (hF'.at 1 rfl)) rfl rfl
     ·intro a' w' hF' hb hd
      have e17:=sHe hd 2 17 rfl rfl rfl rfl
      have e25:=sHe hd 0 25 rfl rfl rfl rfl
      have hkd86064:=kX_bd c (pcs c q1 (((i:Nat):Int)+1))
      have e26:=sHe hd 1 26 rfl rfl rfl rfl
      exact dv1 (wanted_by rfl rfl e17 rfl) (r_bin e25 e26 eg_scalar (bi_int (ic_eql (c:=false) (dec_ff hc4)) (by simp))) rfl rfl
     ·intro a' w' hF' hb hd
      have e17:=sHe hd 0 17 rfl rfl rfl rfl
      have e27:=sHe hd 1 27 rfl rfl rfl rfl
      exact dv0 (r_pick_t e17 e27) rfl rfl rfl
     intro a w6 hF bb hall hne
     replace st:=st.to bb
     have e28:=sSe hall 14 28 rfl rfl
     clear hall hne bb
     replace hF:=hF.add e28
     clear e28
     refine E.nil ?_
     refine wp_cond_false (hF.at 0 rfl) ?_
     refine wp_exit ?_
     refine E.past ?_
     refine E.past ?_
     refine E.out (id:=0) ?_
     refine E.norm ?_
     refine wp_seq ?_
     refine E.seq ?_
     refine E.opv hF (r_move (hF.at 1 rfl)) rfl rfl rfl rfl fun a hF=>?_
     refine E.opset (L':=[(8,.int .i64 ((i:Nat):Int)),(31,.int .i64 ((i:Nat):Int)),(28,.bool false),(10,.int .i64 ((i:Nat):Int)),(9,.int .i64 (kX c (q1))),(5,.pointer (some ⟨g5,0,none⟩)),(0,.int .i64 c),(2,.int .i64 (ov c)),(3,.int .i64 (kM c))]) hF (r_assign (hF.at 0 rfl)) rfl rfl rfl rfl fun a hF=>?_
     refine E.nil ?_
     refine wp_ret ?_
     have bel:=st.bel
     refine bodyPost_ret (res_tmp Tryz.results34 (hF.at 0 rfl)) hF.dfr ?_
     have e:=piece_stop hc0 hc1 hi (fun x=>hc4 (kX_diff hc0 hc1 x))
     subst e
     exact⟨rfl,bel⟩)
end Go.Proofs.YtplngpfpcheofaaGreatDoor
