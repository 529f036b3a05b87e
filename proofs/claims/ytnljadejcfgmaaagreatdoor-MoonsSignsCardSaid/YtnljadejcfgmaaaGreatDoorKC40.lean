import Derived.Test.YtnljadejcfgmaaaGreatDoorKC30
import Derived.Test.YtnljadejcfgmaaaGreatDoorKC37
import Derived.Test.YtnljadejcfgmaaaGreatDoorKC39
namespace Go.Proofs.YtnljadejcfgmaaaGreatDoor
open Go.RowKit
set_option maxRecDepth 100000
set_option linter.unusedVariables false
set_option maxHeartbeats 8000000
theorem rFull15_any (v1:Value) (q1:Rat) (k i:Nat) (w:World) (h1:Rr w v1 q1 k) (li1:RLim q1 i) (hp:1≤k) (hk:k≤300) (hi:i≤3):
 Calls Tryz.prog 157 #[v1] w (ValPost w (.bool (full q1))):=by
 obtain⟨b1,ad1,n1,c1,ae1,m1,d1,rfl⟩:=h1.form
 have st:=St.start w
 refine E.enter (nt:=8) (L:=[(0,.agg #[.bool b1,.slice ad1 n1 c1,.slice ae1 m1 d1])]) Tryz.func157 rfl rfl rfl (args_cons (i:=0) rfl args_nil) ?_
 intro a hF
 refine wp_seq ?_
 refine E.seq ?_
 refine S.box st hF (hF.at 0 rfl) rfl rfl fun g1 w1 a st hF=>?_
 refine E.opv hF (r_assign ev_c) rfl rfl rfl rfl fun a hF=>?_
 refine E.nil ?_
 refine wp_seq ?_
 refine E.seq ?_
 refine E.opv hF (r_load (hF.at 1 rfl) (ld_all ty_RRat (st.bk 0 rfl) rfl)) rfl rfl rfl rfl fun a hF=>?_
 refine S.ck st hF (rgc k158 (map1 (hF.at 0 rfl))) (hPhaseH ⟨(h1.below st.bel),li1⟩) Rh.cl rfl fun vv3 w2 a st hF=>?_
 obtain⟨b5,ad5,n5,c5,ae5,m5,d5,rfl⟩:=Rr.form (st.f 0 rfl).1
 refine S.ck st hF (rgc k38 (map2 ev_c ev_c)) (rr_ret (dOf1b_any (180) _ (by decide) (by decide)) (lim64 (by decide) (by decide))) Rh.cl rfl fun vv7 w6 a st hF=>?_
 obtain⟨b9,ad9,n9,c9,ae9,m9,d9,rfl⟩:=Rr.form (st.f 0 rfl).1
 refine S.callx st hF (rgc k196 (map2 (hF.at 1 rfl) (hF.at 0 rfl))) (dCmp2_any _ _ _ _ (6*k+22*i+1100) 2 _ (st.f 1 rfl).1 (st.f 0 rfl).1 (by omega) (by omega)) rfl rfl rfl rfl fun w10 a st hF=>?_
 refine E.opv hF (r_bin (hF.at 0 rfl) ev_c eg_scalar (bi_int (ic_geq (c:=decide (0≤qc (phaseV (q1)) (((180:Int):Rat)))) rfl) (by simp))) rfl rfl rfl rfl fun a hF=>?_
 refine E.opset (L':=[(2,.bool (decide (0≤qc (phaseV (q1)) (((180:Int):Rat))))),(7,.bool (decide (0≤qc (phaseV (q1)) (((180:Int):Rat))))),(6,.int .i64 (qc (phaseV (q1)) (((180:Int):Rat)))),(5,.agg #[.bool b9,.slice ad9 n9 c9,.slice ae9 m9 d9]),(4,.agg #[.bool b5,.slice ad5 n5 c5,.slice ae5 m5 d5]),(3,.agg #[.bool b1,.slice ad1 n1 c1,.slice ae1 m1 d1]),(1,.pointer (some ⟨g1,0,none⟩)),(0,.agg #[.bool b1,.slice ad1 n1 c1,.slice ae1 m1 d1])]) hF (r_assign (hF.at 0 rfl)) rfl rfl rfl rfl fun a hF=>?_
 refine E.nil ?_
 refine wp_ret ?_
 have bel:=st.bel
 refine bodyPost_ret (res_tmp Tryz.results157 (hF.at 0 rfl)) hF.dfr ?_
 exact⟨by rw[full_qc],bel⟩
theorem comes_no {n:Int} (h:¬full ((n:Int):Rat)=true):comes n=false:=by unfold comes;rw[eq_false_of_ne_true h];rfl
theorem comes_yes {n:Int} (h:full ((n:Int):Rat)=true):comes n=!full (((n+1:Int)):Rat):=by unfold comes;rw[h];rfl
theorem now_no {t:Rat} (h:¬full ((t.floor:Int):Rat)=true):¬nowC t=true:=by unfold nowC;rw[eq_false_of_ne_true h];simp
theorem now_no2 {t:Rat} (h:full t=true):¬nowC t=true:=by unfold nowC;rw[h];simp
theorem now_yes {t:Rat} (h:full ((t.floor:Int):Rat)=true) (h2:¬full t=true):nowC t=true:=by unfold nowC;rw[h,eq_false_of_ne_true h2];rfl
theorem rComes15_any (n:Int) (w:World) (hn0: -1000000000≤n) (hn1:n≤1000000000):
 Calls Tryz.prog 159 #[.int .i64 n] w (ValPost w (.bool (comes n))):=by
 have st:=St.start w
 refine E.enter (nt:=13) (L:=[(0,.int .i64 n)]) Tryz.func159 rfl rfl rfl (args_cons (i:=0) rfl args_nil) ?_
 intro a hF
 refine wp_seq ?_
 refine E.seq ?_
 refine E.opv hF (r_assign ev_c) rfl rfl rfl rfl fun a hF=>?_
 refine E.nil ?_
 refine wp_seq ?_
 refine E.seq ?_
 refine E.opv hF (r_move (hF.at 1 rfl)) rfl rfl rfl rfl fun a hF=>?_
 refine S.ck st hF (rgc k38 (map2 (hF.at 0 rfl) ev_c)) (rr_ret (dOf1b_any (n) _ (by omega) (by omega)) (lim64 (by omega) (by omega))) Rh.cl rfl fun vv2 w1 a st hF=>?_
 obtain⟨b4,ad4,n4,c4,ae4,m4,d4,rfl⟩:=Rr.form (st.f 0 rfl).1
 refine S.callx st hF (rgc k157 (map1 (hF.at 0 rfl))) (rFull15_any _ _ 2 2 _ (st.f 0 rfl).1 (st.f 0 rfl).2 (by omega) (by omega) (by omega)) rfl rfl rfl rfl fun w5 a st hF=>?_
 refine E.opv hF (r_move (hF.at 0 rfl)) rfl rfl rfl rfl fun a hF=>?_
 by_cases hc6:full (((n:Int):Rat))=true
 ·first
  |(exfalso;omega)
  |(refine E.opvg hF (r_move (hF.at 5 rfl)) (wanted_by rfl rfl (Eq.trans (hF.at 0 rfl) (congrArg Value.bool hc6)) rfl) rfl rfl rfl fun a hF=>?_
    refine E.opvg hF (r_bin (hF.at 0 rfl) ev_c eg_scalar (ia_add (by omega) (by omega))) (wanted_by rfl rfl (Eq.trans (hF.at 1 rfl) (congrArg Value.bool hc6)) rfl) rfl rfl rfl fun a hF=>?_
    refine S.ckg st hF (wanted_by rfl rfl (Eq.trans (hF.at 2 rfl) (congrArg Value.bool hc6)) rfl) (rgc k38 (map2 (hF.at 0 rfl) ev_c)) (rr_ret (dOf1b_any (n+1) _ (by omega) (by omega)) (lim64 (by omega) (by omega))) Rh.cl rfl rfl rfl fun vv8 w7 a st hF=>?_
    obtain⟨b10,ad10,n10,c10,ae10,m10,d10,rfl⟩:=Rr.form (st.f 0 rfl).1
    refine S.callxg st hF (wanted_by rfl rfl (Eq.trans (hF.at 3 rfl) (congrArg Value.bool hc6)) rfl) (rgc k157 (map1 (hF.at 0 rfl))) (rFull15_any _ _ 2 2 _ (st.f 0 rfl).1 (st.f 0 rfl).2 (by omega) (by omega) (by omega)) rfl rfl rfl fun w11 a st hF=>?_
    by_cases hc12:full (((n+1:Int):Rat))=true
    ·first
     |(exfalso;omega)
     |(refine E.opvg hF (r_un (Eq.trans (hF.at 0 rfl) (congrArg Value.bool hc12)) (bn_not _ false rfl)) (wanted_by rfl rfl (Eq.trans (hF.at 4 rfl) (congrArg Value.bool hc6)) rfl) rfl rfl rfl fun a hF=>?_
       refine E.opv hF (r_pick_t (Eq.trans (hF.at 5 rfl) (congrArg Value.bool hc6)) (hF.at 0 rfl)) rfl rfl rfl rfl fun a hF=>?_
       refine E.opset (L':=[(2,.bool false),(12,.bool false),(11,.bool false),(10,.bool (full (((n+1:Int):Rat)))),(9,.agg #[.bool b10,.slice ad10 n10 c10,.slice ae10 m10 d10]),(8,.int .i64 (n+1)),(7,.int .i64 n),(6,.bool (full (((n:Int):Rat)))),(5,.bool (full (((n:Int):Rat)))),(4,.agg #[.bool b4,.slice ad4 n4 c4,.slice ae4 m4 d4]),(3,.int .i64 n),(0,.int .i64 n)]) hF (r_assign (hF.at 0 rfl)) rfl rfl rfl rfl fun a hF=>?_
       refine E.nil ?_
       refine wp_ret ?_
       have bel:=st.bel
       refine bodyPost_ret (res_tmp Tryz.results159 (hF.at 0 rfl)) hF.dfr ?_
       exact⟨by rw[comes_yes hc6,hc12] <;> rfl,bel⟩)
    ·first
     |(exfalso;omega)
     |(refine E.opvg hF (r_un (Eq.trans (hF.at 0 rfl) (congrArg Value.bool (eq_false_of_ne_true hc12))) (bn_not _ true rfl)) (wanted_by rfl rfl (Eq.trans (hF.at 4 rfl) (congrArg Value.bool hc6)) rfl) rfl rfl rfl fun a hF=>?_
       refine E.opv hF (r_pick_t (Eq.trans (hF.at 5 rfl) (congrArg Value.bool hc6)) (hF.at 0 rfl)) rfl rfl rfl rfl fun a hF=>?_
       refine E.opset (L':=[(2,.bool true),(12,.bool true),(11,.bool true),(10,.bool (full (((n+1:Int):Rat)))),(9,.agg #[.bool b10,.slice ad10 n10 c10,.slice ae10 m10 d10]),(8,.int .i64 (n+1)),(7,.int .i64 n),(6,.bool (full (((n:Int):Rat)))),(5,.bool (full (((n:Int):Rat)))),(4,.agg #[.bool b4,.slice ad4 n4 c4,.slice ae4 m4 d4]),(3,.int .i64 n),(0,.int .i64 n)]) hF (r_assign (hF.at 0 rfl)) rfl rfl rfl rfl fun a hF=>?_
       refine E.nil ?_
       refine wp_ret ?_
       have bel:=st.bel
       refine bodyPost_ret (res_tmp Tryz.results159 (hF.at 0 rfl)) hF.dfr ?_
       exact⟨by rw[comes_yes hc6,eq_false_of_ne_true hc12] <;> rfl,bel⟩))
 ·first
  |(exfalso;omega)
  |(refine E.unwanted hF (wanted_by rfl rfl (Eq.trans (hF.at 0 rfl) (congrArg Value.bool (eq_false_of_ne_true hc6))) rfl) rfl rfl rfl fun a hF=>?_
    refine E.unwanted hF (wanted_by rfl rfl (Eq.trans (hF.at 1 rfl) (congrArg Value.bool (eq_false_of_ne_true hc6))) rfl) rfl rfl rfl fun a hF=>?_
    refine E.unwanted hF (wanted_by rfl rfl (Eq.trans (hF.at 2 rfl) (congrArg Value.bool (eq_false_of_ne_true hc6))) rfl) rfl rfl rfl fun a hF=>?_
    refine E.unwanted hF (wanted_by rfl rfl (Eq.trans (hF.at 3 rfl) (congrArg Value.bool (eq_false_of_ne_true hc6))) rfl) rfl rfl rfl fun a hF=>?_
    refine E.unwanted hF (wanted_by rfl rfl (Eq.trans (hF.at 4 rfl) (congrArg Value.bool (eq_false_of_ne_true hc6))) rfl) rfl rfl rfl fun a hF=>?_
    refine E.opv hF (r_pick_f (Eq.trans (hF.at 5 rfl) (congrArg Value.bool (eq_false_of_ne_true hc6))) ev_c) rfl rfl rfl rfl fun a hF=>?_
    refine E.opset (L':=[(2,.bool false),(12,.bool false),(11,undef),(10,undef),(9,undef),(8,undef),(7,undef),(6,.bool (full (((n:Int):Rat)))),(5,.bool (full (((n:Int):Rat)))),(4,.agg #[.bool b4,.slice ad4 n4 c4,.slice ae4 m4 d4]),(3,.int .i64 n),(0,.int .i64 n)]) hF (r_assign (hF.at 0 rfl)) rfl rfl rfl rfl fun a hF=>?_
    refine E.nil ?_
    refine wp_ret ?_
    have bel:=st.bel
    refine bodyPost_ret (res_tmp Tryz.results159 (hF.at 0 rfl)) hF.dfr ?_
    exact⟨by rw[comes_no hc6],bel⟩)
theorem rLast15_any (v1:Value) (q1:Rat) (k i:Nat) (w:World) (h1:Rr w v1 q1 k) (li1:RLim q1 i) (hp:1≤k) (hk:k≤300) (hi:i≤3) (hf0: -900000000≤Rat.floor q1) (hf1:Rat.floor q1≤900000000):
 Calls Tryz.prog 103 #[v1] w (ValPost w (.int .i64 (lastV q1))):=by
 obtain⟨b1,ad1,n1,c1,ae1,m1,d1,rfl⟩:=h1.form
 have st:=St.start w
 refine E.enter (nt:=39) (L:=[(0,.agg #[.bool b1,.slice ad1 n1 c1,.slice ae1 m1 d1])]) Tryz.func103 rfl rfl rfl (args_cons (i:=0) rfl args_nil) ?_
 intro a hF
 refine wp_seq ?_
 refine E.seq ?_
 refine S.box st hF (hF.at 0 rfl) rfl rfl fun g1 w1 a st hF=>?_
 refine E.opv hF (r_assign ev_c) rfl rfl rfl rfl fun a hF=>?_
 refine E.nil ?_
 refine wp_seq ?_
 refine E.seq ?_
 refine E.opv hF (r_load (hF.at 1 rfl) (ld_all ty_RRat (st.bk 0 rfl) rfl)) rfl rfl rfl rfl fun a hF=>?_
 refine S.callx st hF (rgc k84 (map1 (hF.at 0 rfl))) (rint3_any _ (q1) k _ (h1.below st.bel) (by omega) (by omega) (by omega) (by omega)) rfl rfl rfl rfl fun w2 a st hF=>?_
 refine E.opv hF (r_assign (hF.at 0 rfl)) rfl rfl rfl rfl fun a hF=>?_
 refine E.nil ?_
 refine wp_seq ?_
 refine wp_seq ?_
 refine E.seq ?_
 refine E.opv hF (r_move (hF.at 0 rfl)) rfl rfl rfl rfl fun a hF=>?_
 refine S.ck st hF (rgc k38 (map2 (hF.at 0 rfl) ev_c)) (rr_ret (dOf1b_any (Rat.floor (q1)) _ (by omega) (by omega)) (lim64 (by omega) (by omega))) Rh.cl rfl fun vv4 w3 a st hF=>?_
 obtain⟨b6,ad6,n6,c6,ae6,m6,d6,rfl⟩:=Rr.form (st.f 0 rfl).1
 refine S.callx st hF (rgc k157 (map1 (hF.at 0 rfl))) (rFull15_any _ _ 2 2 _ (st.f 0 rfl).1 (st.f 0 rfl).2 (by omega) (by omega) (by omega)) rfl rfl rfl rfl fun w7 a st hF=>?_
 refine E.opv hF (r_move (hF.at 0 rfl)) rfl rfl rfl rfl fun a hF=>?_
 by_cases hc8:full (((Rat.floor (q1):Int):Rat))=true
 ·first
  |(exfalso;omega)
  |(refine E.opvg hF (r_load (hF.at 8 rfl) (ld_all ty_RRat (st.bk 0 rfl) rfl)) (wanted_by rfl rfl (Eq.trans (hF.at 0 rfl) (congrArg Value.bool hc8)) rfl) rfl rfl rfl fun a hF=>?_
    refine S.callxg st hF (wanted_by rfl rfl (Eq.trans (hF.at 1 rfl) (congrArg Value.bool hc8)) rfl) (rgc k157 (map1 (hF.at 0 rfl))) (rFull15_any _ (q1) k i _ (h1.below st.bel) li1 (by omega) (by omega) (by omega)) rfl rfl rfl fun w9 a st hF=>?_
    by_cases hc10:full (q1)=true
    ·first
     |(exfalso;omega)
     |(refine E.opvg hF (r_un (Eq.trans (hF.at 0 rfl) (congrArg Value.bool hc10)) (bn_not _ false rfl)) (wanted_by rfl rfl (Eq.trans (hF.at 2 rfl) (congrArg Value.bool hc8)) rfl) rfl rfl rfl fun a hF=>?_
       refine E.opv hF (r_pick_t (Eq.trans (hF.at 3 rfl) (congrArg Value.bool hc8)) (hF.at 0 rfl)) rfl rfl rfl rfl fun a hF=>?_
       refine E.nil ?_
       refine wp_cond_false (hF.at 0 rfl) ?_
       refine wp_skip ?_
       refine E.norm ?_
       refine wp_seq ?_
       refine E.rg 11 mixed hF [17,18,19,20,21,22,23,24,25,26,4] [_,.ex (.int .i64 ((Rat.floor (q1))-1)),_,_,_,_,_,_,_,.ex (.int .i64 (min ((Rat.floor (q1))-1) (Rat.floor ((q1)-((phaseV (q1))*(((10:Int):Rat)/((135:Int):Rat))))))),.ex (.int .i64 (min ((Rat.floor (q1))-1) (Rat.floor ((q1)-((phaseV (q1))*(((10:Int):Rat)/((135:Int):Rat)))))))] (by decide+kernel) rfl rfl rfl ⟨rm 8 rfl,(by intro a' w' hF' hb hd;have e17:=sHe hd 0 17 rfl rfl rfl rfl;exact dv0 (r_bin e17 ev_c eg_scalar (ia_sub (by omega) (by omega))) rfl rfl rfl),rb st ty_RRat 12 0 rfl,rb st ty_RRat 12 0 rfl,ck st k158 rfl fun _ s=>hPhaseH ⟨(h1.below s.bel),li1⟩,ck st k38 rfl fun _ s=>rr_ret (dOf_any (10) (135) _ (by decide) (by decide) (by decide) (by decide)) (RLim.up (rlim_mk2 (limz_64 (by decide) (by decide)) (limz_64 (by decide) (by decide))) 2 (by decide)),ck st k63 rfl fun _ s _ x21 _ x22=>hMulE x21 x22,ck st k80 rfl fun _ s _ x23=>hSubE ⟨(h1.below s.bel),li1⟩ x23,ck st k84 rfl fun _ s _ x24=>ex_ret (rint3_any _ ((q1)-((phaseV (q1))*(((10:Int):Rat)/((135:Int):Rat)))) (k+((6*k+22*i+1100)+2)+1) _ x24.1 (by omega) (by omega) (by have:=lastX_bd q1;omega) (by have:=lastX_bd q1;omega)),(by intro a' w' hF' hb hd;have e18:=sHe hd 0 18 rfl rfl rfl rfl;have e25:=sHe hd 1 25 rfl rfl rfl rfl;exact dv0 (r_builtin (map2 e18 e25) bl_min) rfl rfl rfl),(by intro a' w' hF' hb hd;have e26:=sHe hd 0 26 rfl rfl rfl rfl;exact dv0 (r_assign e26) rfl rfl rfl),trivial⟩ ?_
       intro a w11 hF bb hall
       replace st:=st.to bb
       replace hF:=rE hall hF 10 rfl rfl
       clear hall bb
       refine E.nil ?_
       refine wp_seq ?_
       refine wp_seq ?_
       refine E.seq ?_
       refine E.opv hF (r_assign ev_c) rfl rfl rfl rfl fun a hF=>?_
       refine E.nil ?_
       refine wp_block ?_
       refine E.loop (fun mq a wv=>∃(j:Int) (m:Int),0≤m∧j=lastN q1-m∧lastD (Rat.floor q1)≤j∧¬nowC q1=true∧Fr 39 a [(5,.int .i64 m),(4,.int .i64 j),(2,.int .i64 0)]∧St w wv [] []∧mq=(40-m:Int).toNat) ((40-0:Int).toNat) ?_ ?_
       ·exact⟨(min ((Rat.floor (q1))-1) (Rat.floor ((q1)-((phaseV (q1))*(((10:Int):Rat)/((135:Int):Rat)))))),0,(Int.le_refl _),(show _=lastN q1-0 from(Int.sub_zero _).symm),(lastN_bd (now_no2 hc10)).1,(now_no2 hc10),Fr.pick (L':=[(5,.int .i64 0),(4,.int .i64 (min ((Rat.floor (q1))-1) (Rat.floor ((q1)-((phaseV (q1))*(((10:Int):Rat)/((135:Int):Rat))))))),(2,.int .i64 0)]) hF [0,1,13] rfl,st.pick [] [] rfl rfl (by decide),rfl⟩
       ·rintro mq a w12 ⟨j,m,hm0,hj,hL,hno,hF,st,hm⟩
        have hlb:=lastN_bd hno
        refine wp_seq ?_
        refine wp_seq ?_
        refine E.seq ?_
        refine E.opv hF (r_move (hF.at 0 rfl)) rfl rfl rfl rfl fun a hF=>?_
        refine E.opv hF (r_bin (hF.at 0 rfl) ev_c eg_scalar (bi_int (ic_lss (c:=true) (dec_tt (by omega))) (by simp))) rfl rfl rfl rfl fun a hF=>?_
        refine E.opv hF (r_move (hF.at 0 rfl)) rfl rfl rfl rfl fun a hF=>?_
        refine E.opvg hF (r_move (hF.at 4 rfl)) (wanted_by rfl rfl (hF.at 0 rfl) rfl) rfl rfl rfl fun a hF=>?_
        refine S.callxg st hF (wanted_by rfl rfl (hF.at 1 rfl) rfl) (rgc k159 (map1 (hF.at 0 rfl))) (rComes15_any j _ (by omega) (by omega)) rfl rfl rfl fun w13 a st hF=>?_
        by_cases hc14:comes j=true
        ·first
         |(exfalso;omega)
         |(refine E.opvg hF (r_un (Eq.trans (hF.at 0 rfl) (congrArg Value.bool hc14)) (bn_not _ false rfl)) (wanted_by rfl rfl (hF.at 2 rfl) rfl) rfl rfl rfl fun a hF=>?_
           refine E.opv hF (r_pick_t (hF.at 3 rfl) (hF.at 0 rfl)) rfl rfl rfl rfl fun a hF=>?_
           refine E.nil ?_
           refine wp_cond_false (hF.at 0 rfl) ?_
           refine wp_exit ?_
           refine E.past ?_
           refine E.past ?_
           refine E.out (id:=0) ?_
           refine E.norm ?_
           refine wp_seq ?_
           refine E.seq ?_
           refine E.opv hF (r_move (hF.at 8 rfl)) rfl rfl rfl rfl fun a hF=>?_
           refine E.opset (L':=[(2,.int .i64 j),(38,.int .i64 j),(33,.bool false),(32,.bool false),(31,.bool (comes j)),(30,.int .i64 j),(29,.bool true),(28,.bool true),(27,.int .i64 m),(5,.int .i64 m),(4,.int .i64 j)]) hF (r_assign (hF.at 0 rfl)) rfl rfl rfl rfl fun a hF=>?_
           refine E.nil ?_
           refine wp_ret ?_
           have bel:=st.bel
           refine bodyPost_ret (res_tmp Tryz.results103 (hF.at 0 rfl)) hF.dfr ?_
           exact⟨rv_int (by rw[lastV_no hno];exact lastD_is hL (by omega) hc14),bel⟩)
        ·first
         |(exfalso;omega)
         |(refine E.opvg hF (r_un (Eq.trans (hF.at 0 rfl) (congrArg Value.bool (eq_false_of_ne_true hc14))) (bn_not _ true rfl)) (wanted_by rfl rfl (hF.at 2 rfl) rfl) rfl rfl rfl fun a hF=>?_
           refine E.opv hF (r_pick_t (hF.at 3 rfl) (hF.at 0 rfl)) rfl rfl rfl rfl fun a hF=>?_
           refine E.nil ?_
           refine wp_cond_true (hF.at 0 rfl) ?_
           refine wp_skip ?_
           refine E.norm ?_
           refine wp_seq ?_
           refine wp_block ?_
           refine E.seq ?_
           refine E.opv hF (r_move (hF.at 8 rfl)) rfl rfl rfl rfl fun a hF=>?_
           refine E.opv hF (r_bin (hF.at 0 rfl) ev_c eg_scalar (ia_sub (by omega) (by omega))) rfl rfl rfl rfl fun a hF=>?_
           refine E.opset (L':=[(4,.int .i64 (j-1)),(37,.int .i64 (j-1)),(36,.int .i64 j),(33,.bool true),(32,.bool true),(31,.bool (comes j)),(30,.int .i64 j),(29,.bool true),(28,.bool true),(27,.int .i64 m),(5,.int .i64 m),(2,.int .i64 0)]) hF (r_assign (hF.at 0 rfl)) rfl rfl rfl rfl fun a hF=>?_
           refine E.nil0 ?_
           refine E.blk ?_
           refine E.norm ?_
           refine E.seq ?_
           refine E.opv hF (r_move (hF.at 10 rfl)) rfl rfl rfl rfl fun a hF=>?_
           refine E.opv hF (r_bin (hF.at 0 rfl) ev_c eg_scalar (ia_add (by omega) (by omega))) rfl rfl rfl rfl fun a hF=>?_
           refine E.opset (L':=[(5,.int .i64 (m+1)),(35,.int .i64 (m+1)),(34,.int .i64 m),(4,.int .i64 (j-1)),(37,.int .i64 (j-1)),(36,.int .i64 j),(33,.bool true),(32,.bool true),(31,.bool (comes j)),(30,.int .i64 j),(29,.bool true),(28,.bool true),(27,.int .i64 m),(2,.int .i64 0)]) hF (r_assign (hF.at 0 rfl)) rfl rfl rfl rfl fun a hF=>?_
           refine E.nil0 ?_
           refine E.norm ?_
           exact⟨(40-(m+1):Int).toNat,by omega,⟨(j-1),(m+1),(by omega),(by omega),(by have:=lastD_no hL hc14;omega),hno,Fr.pick (L':=[(5,.int .i64 (m+1)),(4,.int .i64 (j-1)),(2,.int .i64 0)]) hF [0,3,13] rfl,st.pick [] [] rfl rfl (by decide),rfl⟩⟩))
    ·first
     |(exfalso;omega)
     |(refine E.opvg hF (r_un (Eq.trans (hF.at 0 rfl) (congrArg Value.bool (eq_false_of_ne_true hc10))) (bn_not _ true rfl)) (wanted_by rfl rfl (Eq.trans (hF.at 2 rfl) (congrArg Value.bool hc8)) rfl) rfl rfl rfl fun a hF=>?_
       refine E.opv hF (r_pick_t (Eq.trans (hF.at 3 rfl) (congrArg Value.bool hc8)) (hF.at 0 rfl)) rfl rfl rfl rfl fun a hF=>?_
       refine E.nil ?_
       refine wp_cond_true (hF.at 0 rfl) ?_
       refine wp_seq ?_
       refine E.seq ?_
       refine E.opv hF (r_move (hF.at 8 rfl)) rfl rfl rfl rfl fun a hF=>?_
       refine E.opset (L':=[(2,.int .i64 (Rat.floor (q1))),(16,.int .i64 (Rat.floor (q1))),(15,.bool true),(14,.bool true),(13,.bool (full (q1))),(12,.agg #[.bool b1,.slice ad1 n1 c1,.slice ae1 m1 d1]),(11,.bool (full (((Rat.floor (q1):Int):Rat)))),(10,.bool (full (((Rat.floor (q1):Int):Rat)))),(9,.agg #[.bool b6,.slice ad6 n6 c6,.slice ae6 m6 d6]),(8,.int .i64 (Rat.floor (q1))),(3,.int .i64 (Rat.floor (q1))),(7,.int .i64 (Rat.floor (q1))),(6,.agg #[.bool b1,.slice ad1 n1 c1,.slice ae1 m1 d1]),(1,.pointer (some ⟨g1,0,none⟩)),(0,.agg #[.bool b1,.slice ad1 n1 c1,.slice ae1 m1 d1])]) hF (r_assign (hF.at 0 rfl)) rfl rfl rfl rfl fun a hF=>?_
       refine E.nil ?_
       refine wp_ret ?_
       have bel:=st.bel
       refine bodyPost_ret (res_tmp Tryz.results103 (hF.at 0 rfl)) hF.dfr ?_
       exact⟨rv_int (lastV_yes (now_yes hc8 hc10)).symm,bel⟩))
 ·first
  |(exfalso;omega)
  |(refine E.unwanted hF (wanted_by rfl rfl (Eq.trans (hF.at 0 rfl) (congrArg Value.bool (eq_false_of_ne_true hc8))) rfl) rfl rfl rfl fun a hF=>?_
    refine E.unwanted hF (wanted_by rfl rfl (Eq.trans (hF.at 1 rfl) (congrArg Value.bool (eq_false_of_ne_true hc8))) rfl) rfl rfl rfl fun a hF=>?_
    refine E.unwanted hF (wanted_by rfl rfl (Eq.trans (hF.at 2 rfl) (congrArg Value.bool (eq_false_of_ne_true hc8))) rfl) rfl rfl rfl fun a hF=>?_
    refine E.opv hF (r_pick_f (Eq.trans (hF.at 3 rfl) (congrArg Value.bool (eq_false_of_ne_true hc8))) ev_c) rfl rfl rfl rfl fun a hF=>?_
    refine E.nil ?_
    refine wp_cond_false (hF.at 0 rfl) ?_
    refine wp_skip ?_
    refine E.norm ?_
    refine wp_seq ?_
    refine E.rg 11 mixed hF [17,18,19,20,21,22,23,24,25,26,4] [_,.ex (.int .i64 ((Rat.floor (q1))-1)),_,_,_,_,_,_,_,.ex (.int .i64 (min ((Rat.floor (q1))-1) (Rat.floor ((q1)-((phaseV (q1))*(((10:Int):Rat)/((135:Int):Rat))))))),.ex (.int .i64 (min ((Rat.floor (q1))-1) (Rat.floor ((q1)-((phaseV (q1))*(((10:Int):Rat)/((135:Int):Rat)))))))] (by decide+kernel) rfl rfl rfl ⟨rm 8 rfl,(by intro a' w' hF' hb hd;have e17:=sHe hd 0 17 rfl rfl rfl rfl;exact dv0 (r_bin e17 ev_c eg_scalar (ia_sub (by omega) (by omega))) rfl rfl rfl),rb st ty_RRat 12 0 rfl,rb st ty_RRat 12 0 rfl,ck st k158 rfl fun _ s=>hPhaseH ⟨(h1.below s.bel),li1⟩,ck st k38 rfl fun _ s=>rr_ret (dOf_any (10) (135) _ (by decide) (by decide) (by decide) (by decide)) (RLim.up (rlim_mk2 (limz_64 (by decide) (by decide)) (limz_64 (by decide) (by decide))) 2 (by decide)),ck st k63 rfl fun _ s _ x21 _ x22=>hMulE x21 x22,ck st k80 rfl fun _ s _ x23=>hSubE ⟨(h1.below s.bel),li1⟩ x23,ck st k84 rfl fun _ s _ x24=>ex_ret (rint3_any _ ((q1)-((phaseV (q1))*(((10:Int):Rat)/((135:Int):Rat)))) (k+((6*k+22*i+1100)+2)+1) _ x24.1 (by omega) (by omega) (by have:=lastX_bd q1;omega) (by have:=lastX_bd q1;omega)),(by intro a' w' hF' hb hd;have e18:=sHe hd 0 18 rfl rfl rfl rfl;have e25:=sHe hd 1 25 rfl rfl rfl rfl;exact dv0 (r_builtin (map2 e18 e25) bl_min) rfl rfl rfl),(by intro a' w' hF' hb hd;have e26:=sHe hd 0 26 rfl rfl rfl rfl;exact dv0 (r_assign e26) rfl rfl rfl),trivial⟩ ?_
    intro a w15 hF bb hall
    replace st:=st.to bb
    replace hF:=rE hall hF 10 rfl rfl
    clear hall bb
    refine E.nil ?_
    refine wp_seq ?_
    refine wp_seq ?_
    refine E.seq ?_
    refine E.opv hF (r_assign ev_c) rfl rfl rfl rfl fun a hF=>?_
    refine E.nil ?_
    refine wp_block ?_
    refine E.loop (fun mq a wv=>∃(j:Int) (m:Int),0≤m∧j=lastN q1-m∧lastD (Rat.floor q1)≤j∧¬nowC q1=true∧Fr 39 a [(5,.int .i64 m),(4,.int .i64 j),(2,.int .i64 0)]∧St w wv [] []∧mq=(40-m:Int).toNat) ((40-0:Int).toNat) ?_ ?_
    ·exact⟨(min ((Rat.floor (q1))-1) (Rat.floor ((q1)-((phaseV (q1))*(((10:Int):Rat)/((135:Int):Rat)))))),0,(Int.le_refl _),(show _=lastN q1-0 from(Int.sub_zero _).symm),(lastN_bd (now_no hc8)).1,(now_no hc8),Fr.pick (L':=[(5,.int .i64 0),(4,.int .i64 (min ((Rat.floor (q1))-1) (Rat.floor ((q1)-((phaseV (q1))*(((10:Int):Rat)/((135:Int):Rat))))))),(2,.int .i64 0)]) hF [0,1,13] rfl,st.pick [] [] rfl rfl (by decide),rfl⟩
    ·rintro mq a w16 ⟨j,m,hm0,hj,hL,hno,hF,st,hm⟩
     have hlb:=lastN_bd hno
     refine wp_seq ?_
     refine wp_seq ?_
     refine E.seq ?_
     refine E.opv hF (r_move (hF.at 0 rfl)) rfl rfl rfl rfl fun a hF=>?_
     refine E.opv hF (r_bin (hF.at 0 rfl) ev_c eg_scalar (bi_int (ic_lss (c:=true) (dec_tt (by omega))) (by simp))) rfl rfl rfl rfl fun a hF=>?_
     refine E.opv hF (r_move (hF.at 0 rfl)) rfl rfl rfl rfl fun a hF=>?_
     refine E.opvg hF (r_move (hF.at 4 rfl)) (wanted_by rfl rfl (hF.at 0 rfl) rfl) rfl rfl rfl fun a hF=>?_
     refine S.callxg st hF (wanted_by rfl rfl (hF.at 1 rfl) rfl) (rgc k159 (map1 (hF.at 0 rfl))) (rComes15_any j _ (by omega) (by omega)) rfl rfl rfl fun w17 a st hF=>?_
     by_cases hc18:comes j=true
     ·first
      |(exfalso;omega)
      |(refine E.opvg hF (r_un (Eq.trans (hF.at 0 rfl) (congrArg Value.bool hc18)) (bn_not _ false rfl)) (wanted_by rfl rfl (hF.at 2 rfl) rfl) rfl rfl rfl fun a hF=>?_
        refine E.opv hF (r_pick_t (hF.at 3 rfl) (hF.at 0 rfl)) rfl rfl rfl rfl fun a hF=>?_
        refine E.nil ?_
        refine wp_cond_false (hF.at 0 rfl) ?_
        refine wp_exit ?_
        refine E.past ?_
        refine E.past ?_
        refine E.out (id:=0) ?_
        refine E.norm ?_
        refine wp_seq ?_
        refine E.seq ?_
        refine E.opv hF (r_move (hF.at 8 rfl)) rfl rfl rfl rfl fun a hF=>?_
        refine E.opset (L':=[(2,.int .i64 j),(38,.int .i64 j),(33,.bool false),(32,.bool false),(31,.bool (comes j)),(30,.int .i64 j),(29,.bool true),(28,.bool true),(27,.int .i64 m),(5,.int .i64 m),(4,.int .i64 j)]) hF (r_assign (hF.at 0 rfl)) rfl rfl rfl rfl fun a hF=>?_
        refine E.nil ?_
        refine wp_ret ?_
        have bel:=st.bel
        refine bodyPost_ret (res_tmp Tryz.results103 (hF.at 0 rfl)) hF.dfr ?_
        exact⟨rv_int (by rw[lastV_no hno];exact lastD_is hL (by omega) hc18),bel⟩)
     ·first
      |(exfalso;omega)
      |(refine E.opvg hF (r_un (Eq.trans (hF.at 0 rfl) (congrArg Value.bool (eq_false_of_ne_true hc18))) (bn_not _ true rfl)) (wanted_by rfl rfl (hF.at 2 rfl) rfl) rfl rfl rfl fun a hF=>?_
        refine E.opv hF (r_pick_t (hF.at 3 rfl) (hF.at 0 rfl)) rfl rfl rfl rfl fun a hF=>?_
        refine E.nil ?_
        refine wp_cond_true (hF.at 0 rfl) ?_
        refine wp_skip ?_
        refine E.norm ?_
        refine wp_seq ?_
        refine wp_block ?_
        refine E.seq ?_
        refine E.opv hF (r_move (hF.at 8 rfl)) rfl rfl rfl rfl fun a hF=>?_
        refine E.opv hF (r_bin (hF.at 0 rfl) ev_c eg_scalar (ia_sub (by omega) (by omega))) rfl rfl rfl rfl fun a hF=>?_
        refine E.opset (L':=[(4,.int .i64 (j-1)),(37,.int .i64 (j-1)),(36,.int .i64 j),(33,.bool true),(32,.bool true),(31,.bool (comes j)),(30,.int .i64 j),(29,.bool true),(28,.bool true),(27,.int .i64 m),(5,.int .i64 m),(2,.int .i64 0)]) hF (r_assign (hF.at 0 rfl)) rfl rfl rfl rfl fun a hF=>?_
        refine E.nil0 ?_
        refine E.blk ?_
        refine E.norm ?_
        refine E.seq ?_
        refine E.opv hF (r_move (hF.at 10 rfl)) rfl rfl rfl rfl fun a hF=>?_
        refine E.opv hF (r_bin (hF.at 0 rfl) ev_c eg_scalar (ia_add (by omega) (by omega))) rfl rfl rfl rfl fun a hF=>?_
        refine E.opset (L':=[(5,.int .i64 (m+1)),(35,.int .i64 (m+1)),(34,.int .i64 m),(4,.int .i64 (j-1)),(37,.int .i64 (j-1)),(36,.int .i64 j),(33,.bool true),(32,.bool true),(31,.bool (comes j)),(30,.int .i64 j),(29,.bool true),(28,.bool true),(27,.int .i64 m),(2,.int .i64 0)]) hF (r_assign (hF.at 0 rfl)) rfl rfl rfl rfl fun a hF=>?_
        refine E.nil0 ?_
        refine E.norm ?_
        exact⟨(40-(m+1):Int).toNat,by omega,⟨(j-1),(m+1),(by omega),(by omega),(by have:=lastD_no hL hc18;omega),hno,Fr.pick (L':=[(5,.int .i64 (m+1)),(4,.int .i64 (j-1)),(2,.int .i64 0)]) hF [0,3,13] rfl,st.pick [] [] rfl rfl (by decide),rfl⟩⟩))
theorem rNext15_any (n:Int) (w:World) (hn0: -900000000≤n) (hn1:n≤900000000) (hc:comes n=true):
 Calls Tryz.prog 155 #[.int .i64 n] w (ValPost w (.int .i64 (nextD n))):=by
 have st:=St.start w
 refine E.enter (nt:=18) (L:=[(0,.int .i64 n)]) Tryz.func155 rfl rfl rfl (args_cons (i:=0) rfl args_nil) ?_
 intro a hF
 refine wp_seq ?_
 refine E.seq ?_
 refine E.opv hF (r_assign ev_c) rfl rfl rfl rfl fun a hF=>?_
 refine E.nil ?_
 refine wp_seq ?_
 refine E.seq ?_
 refine E.opv hF (r_move (hF.at 1 rfl)) rfl rfl rfl rfl fun a hF=>?_
 refine E.opv hF (r_bin (hF.at 0 rfl) ev_c eg_scalar (ia_add (by omega) (by omega))) rfl rfl rfl rfl fun a hF=>?_
 refine E.opset (L':=[(0,.int .i64 (n+25)),(5,.int .i64 (n+25)),(4,.int .i64 n),(2,.int .i64 0)]) hF (r_assign (hF.at 0 rfl)) rfl rfl rfl rfl fun a hF=>?_
 refine E.nil ?_
 refine wp_seq ?_
 refine wp_seq ?_
 refine E.seq ?_
 refine E.opv hF (r_assign ev_c) rfl rfl rfl rfl fun a hF=>?_
 refine E.nil ?_
 refine wp_block ?_
 refine E.loop (fun mq a wv=>∃(j:Int) (m:Int),0≤m∧j=n+25+m∧j≤nextD n∧Fr 18 a [(3,.int .i64 m),(0,.int .i64 j),(2,.int .i64 0)]∧St w wv [] []∧mq=(40-m:Int).toNat) ((40-0:Int).toNat) ?_ ?_
 ·exact⟨(n+25),0,(Int.le_refl _),(by omega),(by have:=nextD_spec hc;omega),Fr.pick (L':=[(3,.int .i64 0),(0,.int .i64 (n+25)),(2,.int .i64 0)]) hF [0,1,4] rfl,st.pick [] [] rfl rfl (by decide),rfl⟩
 ·rintro mq a w1 ⟨j,m,hm0,hj,hL,hF,st,hm⟩
  have hns:=nextD_spec hc
  refine wp_seq ?_
  refine wp_seq ?_
  refine E.seq ?_
  refine E.opv hF (r_move (hF.at 0 rfl)) rfl rfl rfl rfl fun a hF=>?_
  refine E.opv hF (r_bin (hF.at 0 rfl) ev_c eg_scalar (bi_int (ic_lss (c:=true) (dec_tt (by omega))) (by simp))) rfl rfl rfl rfl fun a hF=>?_
  refine E.opv hF (r_move (hF.at 0 rfl)) rfl rfl rfl rfl fun a hF=>?_
  refine E.opvg hF (r_move (hF.at 4 rfl)) (wanted_by rfl rfl (hF.at 0 rfl) rfl) rfl rfl rfl fun a hF=>?_
  refine S.callxg st hF (wanted_by rfl rfl (hF.at 1 rfl) rfl) (rgc k159 (map1 (hF.at 0 rfl))) (rComes15_any j _ (by omega) (by omega)) rfl rfl rfl fun w2 a st hF=>?_
  by_cases hc3:comes j=true
  ·first
   |(exfalso;omega)
   |(refine E.opvg hF (r_un (Eq.trans (hF.at 0 rfl) (congrArg Value.bool hc3)) (bn_not _ false rfl)) (wanted_by rfl rfl (hF.at 2 rfl) rfl) rfl rfl rfl fun a hF=>?_
     refine E.opv hF (r_pick_t (hF.at 3 rfl) (hF.at 0 rfl)) rfl rfl rfl rfl fun a hF=>?_
     refine E.nil ?_
     refine wp_cond_false (hF.at 0 rfl) ?_
     refine wp_exit ?_
     refine E.past ?_
     refine E.past ?_
     refine E.out (id:=0) ?_
     refine E.norm ?_
     refine wp_seq ?_
     refine E.seq ?_
     refine E.opv hF (r_move (hF.at 8 rfl)) rfl rfl rfl rfl fun a hF=>?_
     refine E.opset (L':=[(2,.int .i64 j),(17,.int .i64 j),(12,.bool false),(11,.bool false),(10,.bool (comes j)),(9,.int .i64 j),(8,.bool true),(7,.bool true),(6,.int .i64 m),(3,.int .i64 m),(0,.int .i64 j)]) hF (r_assign (hF.at 0 rfl)) rfl rfl rfl rfl fun a hF=>?_
     refine E.nil ?_
     refine wp_ret ?_
     have bel:=st.bel
     refine bodyPost_ret (res_tmp Tryz.results155 (hF.at 0 rfl)) hF.dfr ?_
     exact⟨rv_int (nextD_is hc (by omega) hL hc3),bel⟩)
  ·first
   |(exfalso;omega)
   |(refine E.opvg hF (r_un (Eq.trans (hF.at 0 rfl) (congrArg Value.bool (eq_false_of_ne_true hc3))) (bn_not _ true rfl)) (wanted_by rfl rfl (hF.at 2 rfl) rfl) rfl rfl rfl fun a hF=>?_
     refine E.opv hF (r_pick_t (hF.at 3 rfl) (hF.at 0 rfl)) rfl rfl rfl rfl fun a hF=>?_
     refine E.nil ?_
     refine wp_cond_true (hF.at 0 rfl) ?_
     refine wp_skip ?_
     refine E.norm ?_
     refine wp_seq ?_
     refine wp_block ?_
     refine E.seq ?_
     refine E.opv hF (r_move (hF.at 8 rfl)) rfl rfl rfl rfl fun a hF=>?_
     refine E.opv hF (r_bin (hF.at 0 rfl) ev_c eg_scalar (ia_add (by omega) (by omega))) rfl rfl rfl rfl fun a hF=>?_
     refine E.opset (L':=[(0,.int .i64 (j+1)),(16,.int .i64 (j+1)),(15,.int .i64 j),(12,.bool true),(11,.bool true),(10,.bool (comes j)),(9,.int .i64 j),(8,.bool true),(7,.bool true),(6,.int .i64 m),(3,.int .i64 m),(2,.int .i64 0)]) hF (r_assign (hF.at 0 rfl)) rfl rfl rfl rfl fun a hF=>?_
     refine E.nil0 ?_
     refine E.blk ?_
     refine E.norm ?_
     refine E.seq ?_
     refine E.opv hF (r_move (hF.at 10 rfl)) rfl rfl rfl rfl fun a hF=>?_
     refine E.opv hF (r_bin (hF.at 0 rfl) ev_c eg_scalar (ia_add (by omega) (by omega))) rfl rfl rfl rfl fun a hF=>?_
     refine E.opset (L':=[(3,.int .i64 (m+1)),(14,.int .i64 (m+1)),(13,.int .i64 m),(0,.int .i64 (j+1)),(16,.int .i64 (j+1)),(15,.int .i64 j),(12,.bool true),(11,.bool true),(10,.bool (comes j)),(9,.int .i64 j),(8,.bool true),(7,.bool true),(6,.int .i64 m),(2,.int .i64 0)]) hF (r_assign (hF.at 0 rfl)) rfl rfl rfl rfl fun a hF=>?_
     refine E.nil0 ?_
     refine E.norm ?_
     exact⟨(40-(m+1):Int).toNat,by omega,⟨(j+1),(m+1),(by omega),(by omega),(by have:=nextD_no hc (by omega) hL hc3;omega),Fr.pick (L':=[(3,.int .i64 (m+1)),(0,.int .i64 (j+1)),(2,.int .i64 0)]) hF [0,3,13] rfl,st.pick [] [] rfl rfl (by decide),rfl⟩⟩)
theorem dct_dsz (p:Rat→Bool) (lo hi:Rat) {m i:Nat} (h:i≤m):dct p lo hi m i+dsz m i≤2^m:=by
 by_cases q:i<m
 ·have b:=hlv_bd p lo hi i
  have t:=two_pos (m-1-i)
  unfold dct dsz
  rw[if_pos q,show(2:Int)^(m-i)=2*2^(m-1-i) by rw[show m-i=(m-1-i)+1 by omega,two_succ],show(2:Int)^m=2^(i+1)*2^(m-1-i) by rw[←Int.pow_add];congr 1;omega]
  have e:=two_succ i
  have le:=Int.mul_le_mul_of_nonneg_right (show 2*hlv p lo hi i+1≤2^(i+1) by omega) (Int.le_of_lt t)
  grind
 ·have b:=dct_bd p lo hi h
  unfold dsz
  rw[if_neg q];omega
theorem dsz_half2 {m i:Nat} (h:i<m):dsz m i/2=dsz m (i+1):=by
 have:=dsz_half h
 rwa[Int.tdiv_eq_ediv_of_nonneg (dsz_bd (m:=m) (i:=i)).1] at this
theorem moon_at (n z:Int):(((1024*n+z:Int)):Rat)/((1024:Int):Rat)=atR ((n:Int):Rat) (((n+1:Int)):Rat) z 1024:=by
 unfold atR
 simp only [Rat.intCast_add,Rat.intCast_mul]
 rw[show((1024:Int):Rat)=1024 from rfl,show((1:Int):Rat)=1 from rfl]
 generalize ((n:Int):Rat)=y
 generalize ((z:Int):Rat)=u
 grind
theorem moon_mid {n:Int} {i:Nat} (h:i<10):(((1024*n+dct wax ((n:Int):Rat) (((n+1:Int)):Rat) 10 i+dsz 10 i:Int)):Rat)/((1024:Int):Rat)=hmi wax ((n:Int):Rat) (((n+1:Int)):Rat) i:=by
 rw[←dct_mid wax ((n:Int):Rat) (((n+1:Int)):Rat) h,Int.add_assoc,moon_at]
 rfl
theorem moon_t {n:Int} {i:Nat} (h:i<10) (e:full ((((1024*n+dct wax ((n:Int):Rat) (((n+1:Int)):Rat) 10 i+dsz 10 i:Int)):Rat)/((1024:Int):Rat))=true):dct wax ((n:Int):Rat) (((n+1:Int)):Rat) 10 (i+1)=dct wax ((n:Int):Rat) (((n+1:Int)):Rat) 10 i+dsz 10 i:=by
 rw[moon_mid h] at e
 exact dct_f h (wax_f.2 e)
theorem moon_f {n:Int} {i:Nat} (h:i<10) (e:¬full ((((1024*n+dct wax ((n:Int):Rat) (((n+1:Int)):Rat) 10 i+dsz 10 i:Int)):Rat)/((1024:Int):Rat))=true):dct wax ((n:Int):Rat) (((n+1:Int)):Rat) 10 (i+1)=dct wax ((n:Int):Rat) (((n+1:Int)):Rat) 10 i:=by
 rw[moon_mid h] at e
 exact dct_t h (wax_t.2 (eq_false_of_ne_true e))
theorem rMoon15_any (n:Int) (w:World) (hn0: -1000000000≤n) (hn1:n≤1000000000):
 Calls Tryz.prog 195 #[.int .i64 n] w (ValPost w (.int .i64 (hlv wax ((n:Int):Rat) (((n+1:Int)):Rat) 10))):=by
 have st:=St.start w
 refine E.enter (nt:=21) (L:=[(0,.int .i64 n)]) Tryz.func195 rfl rfl rfl (args_cons (i:=0) rfl args_nil) ?_
 intro a hF
 refine wp_seq ?_
 refine E.seq ?_
 refine E.opv hF (r_assign ev_c) rfl rfl rfl rfl fun a hF=>?_
 refine E.nil ?_
 refine wp_seq ?_
 refine E.seq ?_
 refine E.opv hF (r_assign ev_c) rfl rfl rfl rfl fun a hF=>?_
 refine E.nil ?_
 refine wp_seq ?_
 refine wp_seq ?_
 refine E.seq ?_
 refine E.opv hF (r_assign ev_c) rfl rfl rfl rfl fun a hF=>?_
 refine E.nil ?_
 refine wp_block ?_
 replace hF:Fr 21 a [(4,.int .i64 (dsz 10 0)),(3,.int .i64 (dct wax ((n:Int):Rat) (((n+1:Int)):Rat) 10 0)),(2,.int .i64 0),(0,.int .i64 n)]:=by rw[show dct wax ((n:Int):Rat) (((n+1:Int)):Rat) 10 0=0 from dct_zero _ _ _ _];rw[show dsz 10 0=512 from by decide+kernel];exact hF
 refine E.loop (fun mq a wv=>∃(i:Nat),i≤10∧Fr 21 a [(4,.int .i64 (dsz 10 i)),(3,.int .i64 (dct wax ((n:Int):Rat) (((n+1:Int)):Rat) 10 i)),(2,.int .i64 0),(0,.int .i64 n)]∧St w wv [] []∧mq=10-i) ((10-0)) ?_ ?_
 ·exact⟨0,(Nat.zero_le _),Fr.pick (L':=[(4,.int .i64 (dsz 10 0)),(3,.int .i64 (dct wax ((n:Int):Rat) (((n+1:Int)):Rat) 10 0)),(2,.int .i64 0),(0,.int .i64 n)]) hF [0,1,2,3] rfl,st.pick [] [] rfl rfl (by decide),rfl⟩
 ·rintro mq a w1 ⟨i,hi,hF,st,hm⟩
  have hd:=dct_bd wax ((n:Int):Rat) (((n+1:Int)):Rat) (m:=10) (i:=i) hi
  have hs:=dsz_bd (m:=10) (i:=i)
  have hds:=dct_dsz wax ((n:Int):Rat) (((n+1:Int)):Rat) (m:=10) (i:=i) hi
  rw[show(2:Int)^10=1024 from by decide+kernel] at hd hs hds
  refine wp_seq ?_
  refine wp_seq ?_
  refine E.seq ?_
  refine E.opv hF (r_move (hF.at 0 rfl)) rfl rfl rfl rfl fun a hF=>?_
  by_cases hc2:0<dsz 10 i
  ·first
   |(exfalso;omega)
   |(refine E.opv hF (r_bin (hF.at 0 rfl) ev_c eg_scalar (bi_int (ic_gtr (c:=true) (dec_tt hc2)) (by simp))) rfl rfl rfl rfl fun a hF=>?_
     refine E.nil ?_
     refine wp_cond_true (hF.at 0 rfl) ?_
     refine wp_skip ?_
     refine E.norm ?_
     refine wp_seq ?_
     refine wp_block ?_
     refine wp_seq ?_
     refine E.seq ?_
     refine E.opv hF (r_move (hF.at 5 rfl)) rfl rfl rfl rfl fun a hF=>?_
     refine E.opv hF (r_bin ev_c (hF.at 0 rfl) eg_scalar (ia_mul (by omega) (by omega))) rfl rfl rfl rfl fun a hF=>?_
     refine E.opv hF (r_move (hF.at 5 rfl)) rfl rfl rfl rfl fun a hF=>?_
     refine E.opv hF (r_bin (hF.at 1 rfl) (hF.at 0 rfl) eg_scalar (ia_add (by omega) (by omega))) rfl rfl rfl rfl fun a hF=>?_
     refine E.opv hF (r_move (hF.at 6 rfl)) rfl rfl rfl rfl fun a hF=>?_
     refine E.opv hF (r_bin (hF.at 1 rfl) (hF.at 0 rfl) eg_scalar (ia_add (by omega) (by omega))) rfl rfl rfl rfl fun a hF=>?_
     refine S.ck st hF (rgc k38 (map2 (hF.at 0 rfl) ev_c)) (rr_ret (dOf_any (((1024*n)+(dct wax ((n:Int):Rat) (((n+1:Int)):Rat) 10 i))+(dsz 10 i)) (1024) _ (by omega) (by omega) (by decide) (by decide)) (RLim.up (rlim_mk2 (limz_64 (by omega) (by omega)) (limz_64 (by decide) (by decide))) 2 (by decide))) Rh.cl rfl fun vv4 w3 a st hF=>?_
     obtain⟨b6,ad6,n6,c6,ae6,m6,d6,rfl⟩:=Rr.form (st.f 0 rfl).1
     refine S.callx st hF (rgc k157 (map1 (hF.at 0 rfl))) (rFull15_any _ _ 2 2 _ (st.f 0 rfl).1 (st.f 0 rfl).2 (by omega) (by omega) (by omega)) rfl rfl rfl rfl fun w7 a st hF=>?_
     refine E.nil ?_
     by_cases hc8:full (((((1024*n)+(dct wax ((n:Int):Rat) (((n+1:Int)):Rat) 10 i))+(dsz 10 i):Int):Rat)/((1024:Int):Rat))=true
     ·first
      |(exfalso;omega)
      |(refine wp_cond_true (Eq.trans (hF.at 0 rfl) (congrArg Value.bool hc8)) ?_
        refine E.seq ?_
        refine E.opv hF (r_move (hF.at 11 rfl)) rfl rfl rfl rfl fun a hF=>?_
        refine E.opv hF (r_move (hF.at 11 rfl)) rfl rfl rfl rfl fun a hF=>?_
        refine E.opv hF (r_bin (hF.at 1 rfl) (hF.at 0 rfl) eg_scalar (ia_add (by omega) (by omega))) rfl rfl rfl rfl fun a hF=>?_
        refine E.opset (L':=[(3,.int .i64 ((dct wax ((n:Int):Rat) (((n+1:Int)):Rat) 10 i)+(dsz 10 i))),(19,.int .i64 ((dct wax ((n:Int):Rat) (((n+1:Int)):Rat) 10 i)+(dsz 10 i))),(18,.int .i64 (dsz 10 i)),(17,.int .i64 (dct wax ((n:Int):Rat) (((n+1:Int)):Rat) 10 i)),(16,.bool (full (((((1024*n)+(dct wax ((n:Int):Rat) (((n+1:Int)):Rat) 10 i))+(dsz 10 i):Int):Rat)/((1024:Int):Rat)))),(15,.agg #[.bool b6,.slice ad6 n6 c6,.slice ae6 m6 d6]),(14,.int .i64 (((1024*n)+(dct wax ((n:Int):Rat) (((n+1:Int)):Rat) 10 i))+(dsz 10 i))),(13,.int .i64 (dsz 10 i)),(12,.int .i64 ((1024*n)+(dct wax ((n:Int):Rat) (((n+1:Int)):Rat) 10 i))),(11,.int .i64 (dct wax ((n:Int):Rat) (((n+1:Int)):Rat) 10 i)),(10,.int .i64 (1024*n)),(9,.int .i64 n),(6,.bool true),(5,.int .i64 (dsz 10 i)),(4,.int .i64 (dsz 10 i)),(2,.int .i64 0),(0,.int .i64 n)]) hF (r_assign (hF.at 0 rfl)) rfl rfl rfl rfl fun a hF=>?_
        refine E.nil0 ?_
        refine E.blk ?_
        refine E.norm ?_
        refine E.seq ?_
        refine E.opv hF (r_move (hF.at 14 rfl)) rfl rfl rfl rfl fun a hF=>?_
        refine E.opv hF (r_bin (hF.at 0 rfl) ev_c eg_scalar (id_quon (a:=dsz 10 i) (b:=2) (by omega) (by omega) (by omega) (by omega))) rfl rfl rfl rfl fun a hF=>?_
        refine E.opset (L':=[(4,.int .i64 ((dsz 10 i)/2)),(8,.int .i64 ((dsz 10 i)/2)),(7,.int .i64 (dsz 10 i)),(3,.int .i64 ((dct wax ((n:Int):Rat) (((n+1:Int)):Rat) 10 i)+(dsz 10 i))),(19,.int .i64 ((dct wax ((n:Int):Rat) (((n+1:Int)):Rat) 10 i)+(dsz 10 i))),(18,.int .i64 (dsz 10 i)),(17,.int .i64 (dct wax ((n:Int):Rat) (((n+1:Int)):Rat) 10 i)),(16,.bool (full (((((1024*n)+(dct wax ((n:Int):Rat) (((n+1:Int)):Rat) 10 i))+(dsz 10 i):Int):Rat)/((1024:Int):Rat)))),(15,.agg #[.bool b6,.slice ad6 n6 c6,.slice ae6 m6 d6]),(14,.int .i64 (((1024*n)+(dct wax ((n:Int):Rat) (((n+1:Int)):Rat) 10 i))+(dsz 10 i))),(13,.int .i64 (dsz 10 i)),(12,.int .i64 ((1024*n)+(dct wax ((n:Int):Rat) (((n+1:Int)):Rat) 10 i))),(11,.int .i64 (dct wax ((n:Int):Rat) (((n+1:Int)):Rat) 10 i)),(10,.int .i64 (1024*n)),(9,.int .i64 n),(6,.bool true),(5,.int .i64 (dsz 10 i)),(2,.int .i64 0),(0,.int .i64 n)]) hF (r_assign (hF.at 0 rfl)) rfl rfl rfl rfl fun a hF=>?_
        refine E.nil0 ?_
        refine E.norm ?_
        replace hF:Fr 21 a [(4,.int .i64 (dsz 10 (i+1))),(8,.int .i64 ((dsz 10 i)/2)),(7,.int .i64 (dsz 10 i)),(3,.int .i64 (dct wax ((n:Int):Rat) (((n+1:Int)):Rat) 10 (i+1))),(19,.int .i64 ((dct wax ((n:Int):Rat) (((n+1:Int)):Rat) 10 i)+(dsz 10 i))),(18,.int .i64 (dsz 10 i)),(17,.int .i64 (dct wax ((n:Int):Rat) (((n+1:Int)):Rat) 10 i)),(16,.bool (full (((((1024*n)+(dct wax ((n:Int):Rat) (((n+1:Int)):Rat) 10 i))+(dsz 10 i):Int):Rat)/((1024:Int):Rat)))),(15,.agg #[.bool b6,.slice ad6 n6 c6,.slice ae6 m6 d6]),(14,.int .i64 (((1024*n)+(dct wax ((n:Int):Rat) (((n+1:Int)):Rat) 10 i))+(dsz 10 i))),(13,.int .i64 (dsz 10 i)),(12,.int .i64 ((1024*n)+(dct wax ((n:Int):Rat) (((n+1:Int)):Rat) 10 i))),(11,.int .i64 (dct wax ((n:Int):Rat) (((n+1:Int)):Rat) 10 i)),(10,.int .i64 (1024*n)),(9,.int .i64 n),(6,.bool true),(5,.int .i64 (dsz 10 i)),(2,.int .i64 0),(0,.int .i64 n)]:=by rw[show dct wax ((n:Int):Rat) (((n+1:Int)):Rat) 10 (i+1)=(dct wax ((n:Int):Rat) (((n+1:Int)):Rat) 10 i)+(dsz 10 i) from moon_t (dsz_pos.1 hc2) hc8];rw[show dsz 10 (i+1)=(dsz 10 i)/2 from(dsz_half2 (dsz_pos.1 hc2)).symm];exact hF
        have hlt:=dsz_pos.1 hc2
        exact⟨(10-(i+1)),by omega,⟨(i+1),(dsz_pos.1 hc2),Fr.pick (L':=[(4,.int .i64 (dsz 10 (i+1))),(3,.int .i64 (dct wax ((n:Int):Rat) (((n+1:Int)):Rat) 10 (i+1))),(2,.int .i64 0),(0,.int .i64 n)]) hF [0,3,17,18] rfl,st.pick [] [] rfl rfl (by decide),rfl⟩⟩)
     ·first
      |(exfalso;omega)
      |(refine wp_cond_false (Eq.trans (hF.at 0 rfl) (congrArg Value.bool (eq_false_of_ne_true hc8))) ?_
        refine wp_skip ?_
        refine E.blk ?_
        refine E.norm ?_
        refine E.seq ?_
        refine E.opv hF (r_move (hF.at 10 rfl)) rfl rfl rfl rfl fun a hF=>?_
        refine E.opv hF (r_bin (hF.at 0 rfl) ev_c eg_scalar (id_quon (a:=dsz 10 i) (b:=2) (by omega) (by omega) (by omega) (by omega))) rfl rfl rfl rfl fun a hF=>?_
        refine E.opset (L':=[(4,.int .i64 ((dsz 10 i)/2)),(8,.int .i64 ((dsz 10 i)/2)),(7,.int .i64 (dsz 10 i)),(16,.bool (full (((((1024*n)+(dct wax ((n:Int):Rat) (((n+1:Int)):Rat) 10 i))+(dsz 10 i):Int):Rat)/((1024:Int):Rat)))),(15,.agg #[.bool b6,.slice ad6 n6 c6,.slice ae6 m6 d6]),(14,.int .i64 (((1024*n)+(dct wax ((n:Int):Rat) (((n+1:Int)):Rat) 10 i))+(dsz 10 i))),(13,.int .i64 (dsz 10 i)),(12,.int .i64 ((1024*n)+(dct wax ((n:Int):Rat) (((n+1:Int)):Rat) 10 i))),(11,.int .i64 (dct wax ((n:Int):Rat) (((n+1:Int)):Rat) 10 i)),(10,.int .i64 (1024*n)),(9,.int .i64 n),(6,.bool true),(5,.int .i64 (dsz 10 i)),(3,.int .i64 (dct wax ((n:Int):Rat) (((n+1:Int)):Rat) 10 i)),(2,.int .i64 0),(0,.int .i64 n)]) hF (r_assign (hF.at 0 rfl)) rfl rfl rfl rfl fun a hF=>?_
        refine E.nil0 ?_
        refine E.norm ?_
        replace hF:Fr 21 a [(4,.int .i64 (dsz 10 (i+1))),(8,.int .i64 ((dsz 10 i)/2)),(7,.int .i64 (dsz 10 i)),(16,.bool (full (((((1024*n)+(dct wax ((n:Int):Rat) (((n+1:Int)):Rat) 10 i))+(dsz 10 i):Int):Rat)/((1024:Int):Rat)))),(15,.agg #[.bool b6,.slice ad6 n6 c6,.slice ae6 m6 d6]),(14,.int .i64 (((1024*n)+(dct wax ((n:Int):Rat) (((n+1:Int)):Rat) 10 i))+(dsz 10 i))),(13,.int .i64 (dsz 10 i)),(12,.int .i64 ((1024*n)+(dct wax ((n:Int):Rat) (((n+1:Int)):Rat) 10 i))),(11,.int .i64 (dct wax ((n:Int):Rat) (((n+1:Int)):Rat) 10 i)),(10,.int .i64 (1024*n)),(9,.int .i64 n),(6,.bool true),(5,.int .i64 (dsz 10 i)),(3,.int .i64 (dct wax ((n:Int):Rat) (((n+1:Int)):Rat) 10 (i+1))),(2,.int .i64 0),(0,.int .i64 n)]:=by rw[show dct wax ((n:Int):Rat) (((n+1:Int)):Rat) 10 (i+1)=dct wax ((n:Int):Rat) (((n+1:Int)):Rat) 10 i from moon_f (dsz_pos.1 hc2) hc8];rw[show dsz 10 (i+1)=(dsz 10 i)/2 from(dsz_half2 (dsz_pos.1 hc2)).symm];exact hF
        have hlt:=dsz_pos.1 hc2
        exact⟨(10-(i+1)),by omega,⟨(i+1),(dsz_pos.1 hc2),Fr.pick (L':=[(4,.int .i64 (dsz 10 (i+1))),(3,.int .i64 (dct wax ((n:Int):Rat) (((n+1:Int)):Rat) 10 (i+1))),(2,.int .i64 0),(0,.int .i64 n)]) hF [0,13,14,15] rfl,st.pick [] [] rfl rfl (by decide),rfl⟩⟩))
  ·first
   |(exfalso;omega)
   |(refine E.opv hF (r_bin (hF.at 0 rfl) ev_c eg_scalar (bi_int (ic_gtr (c:=false) (dec_ff hc2)) (by simp))) rfl rfl rfl rfl fun a hF=>?_
     refine E.nil ?_
     refine wp_cond_false (hF.at 0 rfl) ?_
     refine wp_exit ?_
     refine E.past ?_
     refine E.past ?_
     refine E.out (id:=0) ?_
     refine E.norm ?_
     refine wp_seq ?_
     refine E.seq ?_
     refine E.opv hF (r_move (hF.at 3 rfl)) rfl rfl rfl rfl fun a hF=>?_
     refine E.opset (L':=[(2,.int .i64 (dct wax ((n:Int):Rat) (((n+1:Int)):Rat) 10 i)),(20,.int .i64 (dct wax ((n:Int):Rat) (((n+1:Int)):Rat) 10 i)),(6,.bool false),(5,.int .i64 (dsz 10 i)),(4,.int .i64 (dsz 10 i)),(3,.int .i64 (dct wax ((n:Int):Rat) (((n+1:Int)):Rat) 10 i)),(0,.int .i64 n)]) hF (r_assign (hF.at 0 rfl)) rfl rfl rfl rfl fun a hF=>?_
     refine E.nil ?_
     refine wp_ret ?_
     have bel:=st.bel
     refine bodyPost_ret (res_tmp Tryz.results195 (hF.at 0 rfl)) hF.dfr ?_
     have hge:¬i<10:=fun e=>hc2 (dsz_pos.2 e)
     have e:i=10:=by omega
     subst e
     exact⟨rv_int (dct_end _ _ _ _),bel⟩)
end Go.Proofs.YtnljadejcfgmaaaGreatDoor
