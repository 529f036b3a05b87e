import Derived.Test.YtdbiegfmgabicaaGreatDoorKA37
namespace Go.Proofs.YtdbiegfmgabicaaGreatDoor
open Go.RowKit
set_option maxRecDepth 100000
set_option linter.unusedVariables false
set_option maxHeartbeats 8000000
theorem iw (v1:Value) (q1:Rat) (k i:Nat) (w:World) (h1:Rr w v1 q1 k) (li1:ah q1 i) (hp:1≤k) (hk:k≤300) (hi:i≤3):
 Calls Tryz.prog 119 #[v1] w (aG w (.bool (full q1))):=by
 obtain⟨r1,rfl⟩:=h1.fo
 have st:=St.start w
 refine go1 (nt:=8) Tryz.func119 rfl rfl rfl fun a hF=>?_
 refine wq ?_
 refine bx st hF 0 rfl rfl fun g1 w1 a st hF=>?_
 refine oC hF rfl fun a hF=>nq ?_
 refine oL hF st 1 0 ag rfl rfl rfl rfl fun a hF=>?_
 refine S.ck st hF (rgc k41 (aD hF.o)) (pH ⟨(h1.below st.bel),li1⟩) Rh.cl rfl fun vv3 w2 a st hF=>?_
 obtain⟨r5,rfl⟩:=Rr.fo (st.f 0 rfl).1
 refine S.ck st hF (rgc k71 (aI ar ar)) (aJ (bm (180) _ (by decide) (by decide)) (bP (by decide) (by decide))) Rh.cl rfl fun vv7 w6 a st hF=>?_
 obtain⟨r9,rfl⟩:=Rr.fo (st.f 0 rfl).1
 refine cX st hF (rgc Mf (aI hF.p hF.o)) (lJ _ _ _ _ (6*k+22*i+1100) 2 _ (st.f 1 rfl).1 (st.f 0 rfl).1 (by omega) (by omega)) rfl fun w10 a st hF=>?_
 refine oT hF 0 (cJ (c:=decide (0≤qc (bi (q1)) (((180:Int):Rat)))) rfl) rfl rfl fun a hF=>oE hF 0 rfl rfl fun a hF=>nr ?_
 have bel:=st.bel
 refine rt Tryz.results119 hF 0 rfl ?_
 exact⟨by rw[Hz],bel⟩
theorem Ft {n:Int} (h:¬full ((n:Int):Rat)=true):bw n=false:=by unfold bw;rw[eq_false_of_ne_true h];rfl
theorem tC {n:Int} (h:full ((n:Int):Rat)=true):bw n=!full (((n+1:Int)):Rat):=by unfold bw;rw[h];rfl
theorem BI {t:Rat} (h:¬full ((t.floor:Int):Rat)=true):¬gi t=true:=by unfold gi;rw[eq_false_of_ne_true h];simp
theorem yD {t:Rat} (h:full t=true):¬gi t=true:=by unfold gi;rw[h];simp
theorem Jb {t:Rat} (h:full ((t.floor:Int):Rat)=true) (h2:¬full t=true):gi t=true:=by unfold gi;rw[h,eq_false_of_ne_true h2];rfl
theorem kV (n:Int) (w:World) (hn0: -1000000000≤n) (hn1:n≤1000000000):
 Calls Tryz.prog 120 #[.int .i64 n] w (aG w (.bool (bw n))):=by
 have st:=St.start w
 refine go1 (nt:=13) Tryz.func120 rfl rfl rfl fun a hF=>?_
 refine wq ?_
 refine oC hF rfl fun a hF=>nq ?_
 refine oM hF 1 rfl rfl fun a hF=>?_
 refine S.ck st hF (rgc k71 (aI hF.o ar)) (aJ (bm (n) _ (by omega) (by omega)) (bP (by omega) (by omega))) Rh.cl rfl fun vv2 w1 a st hF=>?_
 obtain⟨r4,rfl⟩:=Rr.fo (st.f 0 rfl).1
 refine cX st hF (rgc uM (aD hF.o)) (iw _ _ 2 2 _ (st.f 0 rfl).1 (st.f 0 rfl).2 (by omega) (by omega) (by omega)) rfl fun w5 a st hF=>?_
 refine oM hF 0 rfl rfl fun a hF=>?_
 by_cases hc6:full (((n:Int):Rat))=true
 ·refine E.opvg hF (aN (hF.at 5 rfl)) (aA rfl rfl (Eq.trans hF.o (congrArg Value.bool hc6)) rfl) rfl rfl rfl fun a hF=>?_
  refine E.opvg hF (aq hF.o ar ab (bj (by omega) (by omega))) (aA rfl rfl (Eq.trans hF.p (congrArg Value.bool hc6)) rfl) rfl rfl rfl fun a hF=>?_
  refine S.ckg st hF (aA rfl rfl (Eq.trans hF.q (congrArg Value.bool hc6)) rfl) (rgc k71 (aI hF.o ar)) (aJ (bm (n+1) _ (by omega) (by omega)) (bP (by omega) (by omega))) Rh.cl rfl rfl rfl fun vv8 w7 a st hF=>?_
  obtain⟨r10,rfl⟩:=Rr.fo (st.f 0 rfl).1
  refine S.callxg st hF (aA rfl rfl (Eq.trans (hF.at 3 rfl) (congrArg Value.bool hc6)) rfl) (rgc uM (aD hF.o)) (iw _ _ 2 2 _ (st.f 0 rfl).1 (st.f 0 rfl).2 (by omega) (by omega) (by omega)) rfl rfl rfl fun w11 a st hF=>?_
  by_cases hc12:full (((n+1:Int):Rat))=true
  ·refine E.opvg hF (cF (Eq.trans hF.o (congrArg Value.bool hc12)) (bT _ false rfl)) (aA rfl rfl (Eq.trans (hF.at 4 rfl) (congrArg Value.bool hc6)) rfl) rfl rfl rfl fun a hF=>?_
   refine oV hF (aH (Eq.trans (hF.at 5 rfl) (congrArg Value.bool hc6)) hF.o) rfl fun a hF=>oE hF 0 rfl rfl fun a hF=>nr ?_
   have bel:=st.bel
   refine rt Tryz.results120 hF 0 rfl ?_
   exact⟨by rw[tC hc6,hc12] <;> rfl,bel⟩
  ·refine E.opvg hF (cF (Eq.trans hF.o (congrArg Value.bool (eq_false_of_ne_true hc12))) (bT _ true rfl)) (aA rfl rfl (Eq.trans (hF.at 4 rfl) (congrArg Value.bool hc6)) rfl) rfl rfl rfl fun a hF=>?_
   refine oV hF (aH (Eq.trans (hF.at 5 rfl) (congrArg Value.bool hc6)) hF.o) rfl fun a hF=>oE hF 0 rfl rfl fun a hF=>nr ?_
   have bel:=st.bel
   refine rt Tryz.results120 hF 0 rfl ?_
   exact⟨by rw[tC hc6,eq_false_of_ne_true hc12] <;> rfl,bel⟩
 ·refine E.unwanted hF (aA rfl rfl (Eq.trans hF.o (congrArg Value.bool (eq_false_of_ne_true hc6))) rfl) rfl rfl rfl fun a hF=>?_
  refine E.unwanted hF (aA rfl rfl (Eq.trans hF.p (congrArg Value.bool (eq_false_of_ne_true hc6))) rfl) rfl rfl rfl fun a hF=>?_
  refine E.unwanted hF (aA rfl rfl (Eq.trans hF.q (congrArg Value.bool (eq_false_of_ne_true hc6))) rfl) rfl rfl rfl fun a hF=>?_
  refine E.unwanted hF (aA rfl rfl (Eq.trans (hF.at 3 rfl) (congrArg Value.bool (eq_false_of_ne_true hc6))) rfl) rfl rfl rfl fun a hF=>?_
  refine E.unwanted hF (aA rfl rfl (Eq.trans (hF.at 4 rfl) (congrArg Value.bool (eq_false_of_ne_true hc6))) rfl) rfl rfl rfl fun a hF=>?_
  refine oV hF (bp (Eq.trans (hF.at 5 rfl) (congrArg Value.bool (eq_false_of_ne_true hc6))) ar) rfl fun a hF=>oE hF 0 rfl rfl fun a hF=>nr ?_
  have bel:=st.bel
  refine rt Tryz.results120 hF 0 rfl ?_
  exact⟨by rw[Ft hc6],bel⟩
theorem xC (v1:Value) (q1:Rat) (k i:Nat) (w:World) (h1:Rr w v1 q1 k) (li1:ah q1 i) (hp:1≤k) (hk:k≤300) (hi:i≤3) (hf0: -900000000≤Rat.floor q1) (hf1:Rat.floor q1≤900000000):
 Calls Tryz.prog 67 #[v1] w (aG w (.int .i64 (bJ q1))):=by
 obtain⟨r1,rfl⟩:=h1.fo
 have st:=St.start w
 refine go1 (nt:=39) Tryz.func67 rfl rfl rfl fun a hF=>?_
 refine wq ?_
 refine bx st hF 0 rfl rfl fun g1 w1 a st hF=>?_
 refine oC hF rfl fun a hF=>nq ?_
 refine oL hF st 1 0 ag rfl rfl rfl rfl fun a hF=>?_
 refine cX st hF (rgc k74 (aD hF.o)) (lH _ (q1) k _ (h1.below st.bel) (by omega) (by omega) (by omega) (by omega)) rfl fun w2 a st hF=>?_
 refine oA hF 0 rfl rfl fun a hF=>ns ?_
 refine wq ?_
 refine oM hF 0 rfl rfl fun a hF=>?_
 refine S.ck st hF (rgc k71 (aI hF.o ar)) (aJ (bm (Rat.floor (q1)) _ (by omega) (by omega)) (bP (by omega) (by omega))) Rh.cl rfl fun vv4 w3 a st hF=>?_
 obtain⟨r6,rfl⟩:=Rr.fo (st.f 0 rfl).1
 refine cX st hF (rgc uM (aD hF.o)) (iw _ _ 2 2 _ (st.f 0 rfl).1 (st.f 0 rfl).2 (by omega) (by omega) (by omega)) rfl fun w7 a st hF=>?_
 refine oM hF 0 rfl rfl fun a hF=>?_
 by_cases hc8:full (((Rat.floor (q1):Int):Rat))=true
 ·refine E.opvg hF (au (hF.at 8 rfl) (bF ag (st.bk 0 rfl) rfl)) (aA rfl rfl (Eq.trans hF.o (congrArg Value.bool hc8)) rfl) rfl rfl rfl fun a hF=>?_
  refine S.callxg st hF (aA rfl rfl (Eq.trans hF.p (congrArg Value.bool hc8)) rfl) (rgc uM (aD hF.o)) (iw _ (q1) k i _ (h1.below st.bel) li1 (by omega) (by omega) (by omega)) rfl rfl rfl fun w9 a st hF=>?_
  by_cases hc10:full (q1)=true
  ·refine E.opvg hF (cF (Eq.trans hF.o (congrArg Value.bool hc10)) (bT _ false rfl)) (aA rfl rfl (Eq.trans hF.q (congrArg Value.bool hc8)) rfl) rfl rfl rfl fun a hF=>?_
   refine oV hF (aH (Eq.trans (hF.at 3 rfl) (congrArg Value.bool hc8)) hF.o) rfl fun a hF=>?_
   refine E.nil ?_
   refine wp_cond_false hF.o ?_
   refine wp_skip ?_
   refine E.norm ?_
   refine wp_seq ?_
   refine E.rg 11 aF hF [17,18,19,20,21,22,23,24,25,26,4] [_,.ex (.int .i64 ((Rat.floor (q1))-1)),_,_,_,_,_,_,_,.ex (.int .i64 (min ((Rat.floor (q1))-1) (Rat.floor ((q1)-((bi (q1))*(((10:Int):Rat)/((135:Int):Rat))))))),.ex (.int .i64 (min ((Rat.floor (q1))-1) (Rat.floor ((q1)-((bi (q1))*(((10:Int):Rat)/((135:Int):Rat)))))))] (by decide+kernel) rfl rfl rfl ⟨rm 8 rfl,(by intro a' w' hF' hb hd;have e17:=tE hd 0 rfl;exact dv0 (aq e17 ar ab (bN (by omega) (by omega))) rfl rfl rfl),rb st ag 12 0 rfl,rb st ag 12 0 rfl,ck st k41 rfl fun _ s=>pH ⟨(h1.below s.bel),li1⟩,ck st k71 rfl fun _ s=>aJ (bD (10) (135) _ (by decide) (by decide) (by decide) (by decide)) (ah.up (aK (ao (by decide) (by decide)) (ao (by decide) (by decide))) 2 (by decide)),ck st k75 rfl fun _ s _ x21 _ x22=>cD x21 x22,ck st k77 rfl fun _ s _ x23=>eB ⟨(h1.below s.bel),li1⟩ x23,ck st k74 rfl fun _ s _ x24=>a9 (lH _ ((q1)-((bi (q1))*(((10:Int):Rat)/((135:Int):Rat)))) (k+((6*k+22*i+1100)+2)+1) _ x24.1 (by omega) (by omega) (by have:=nA q1;omega) (by have:=nA q1;omega)),(by intro a' w' hF' hb hd;have e18:=tE hd 0 rfl;have e25:=tE hd 1 rfl;exact dv0 (bI (aI e18 e25) mt) rfl rfl rfl),(by intro a' w' hF' hb hd;have e26:=tE hd 0 rfl;exact dv0 (a8 e26) rfl rfl rfl),trivial⟩ ?_
   intro a w11 hF bb hall
   replace st:=st.to bb
   replace hF:=rE hall hF 10 rfl rfl
   clear hall bb
   refine ns ?_
   refine wq ?_
   refine oC hF rfl fun a hF=>?_
   refine E.nil ?_
   refine wp_block ?_
   refine E.loop (fun mq a wv=>∃(j:Int) (m:Int),0≤m∧j=mO q1-m∧dV (Rat.floor q1)≤j∧¬gi q1=true∧Fr 39 a [(5,.int .i64 m),(4,.int .i64 j),(2,.int .i64 0)]∧St w wv [] []∧mq=(40-m:Int).toNat) ((40-0:Int).toNat) ?_ ?_
   ·exact⟨(min ((Rat.floor (q1))-1) (Rat.floor ((q1)-((bi (q1))*(((10:Int):Rat)/((135:Int):Rat)))))),0,(Int.le_refl _),(show _=mO q1-0 from(Int.sub_zero _).symm),(m9 (yD hc10)).1,(yD hc10),Fr.pick (L':=[(5,.int .i64 0),(4,.int .i64 (min ((Rat.floor (q1))-1) (Rat.floor ((q1)-((bi (q1))*(((10:Int):Rat)/((135:Int):Rat))))))),(2,.int .i64 0)]) hF [0,1,13] rfl,st.pick [] [] rfl rfl (by decide),rfl⟩
   ·rintro mq a w12 ⟨j,m,hm0,hj,hL,hno,hF,st,hm⟩
    have hlb:=m9 hno
    refine wp_seq ?_
    refine wq ?_
    refine oM hF 0 rfl rfl fun a hF=>oT hF 0 (bM (c:=true) (aL (by omega))) rfl rfl fun a hF=>oM hF 0 rfl rfl fun a hF=>og hF (aN (hF.at 4 rfl)) 0 rfl rfl rfl fun a hF=>?_
    refine S.callxg st hF (aA rfl rfl hF.p rfl) (rgc DP (aD hF.o)) (kV j _ (by omega) (by omega)) rfl rfl rfl fun w13 a st hF=>?_
    by_cases hc14:bw j=true
    ·refine og hF (cF (Eq.trans hF.o (congrArg Value.bool hc14)) (bT _ false rfl)) 2 rfl rfl rfl fun a hF=>oV hF (aH (hF.at 3 rfl) hF.o) rfl fun a hF=>?_
     refine E.nil ?_
     refine wp_cond_false hF.o ?_
     refine wp_exit ?_
     refine E.past ?_
     refine E.past ?_
     refine E.out (id:=0) ?_
     refine E.norm ?_
     refine wq ?_
     refine oM hF 8 rfl rfl fun a hF=>oE hF 0 rfl rfl fun a hF=>nr ?_
     have bel:=st.bel
     refine rt Tryz.results67 hF 0 rfl ?_
     exact⟨bS (by rw[lr hno];exact qB hL (by omega) hc14),bel⟩
    ·refine og hF (cF (Eq.trans hF.o (congrArg Value.bool (eq_false_of_ne_true hc14))) (bT _ true rfl)) 2 rfl rfl rfl fun a hF=>oV hF (aH (hF.at 3 rfl) hF.o) rfl fun a hF=>?_
     refine E.nil ?_
     refine wp_cond_true hF.o ?_
     refine wp_skip ?_
     refine E.norm ?_
     refine wp_seq ?_
     refine wp_block ?_
     refine E.seq ?_
     refine oM hF 8 rfl rfl fun a hF=>oV hF (aq hF.o ar ab (bN (by omega) (by omega))) rfl fun a hF=>oE hF 0 rfl rfl fun a hF=>?_
     refine E.nil0 ?_
     refine E.blk ?_
     refine E.norm ?_
     refine E.seq ?_
     refine oM hF 10 rfl rfl fun a hF=>oV hF (aq hF.o ar ab (bj (by omega) (by omega))) rfl fun a hF=>oE hF 0 rfl rfl fun a hF=>?_
     refine E.nil0 ?_
     refine E.norm ?_
     exact⟨(40-(m+1):Int).toNat,by omega,⟨(j-1),(m+1),(by omega),(by omega),(by have:=qG hL hc14;omega),hno,Fr.pick (L':=[(5,.int .i64 (m+1)),(4,.int .i64 (j-1)),(2,.int .i64 0)]) hF [0,3,13] rfl,st.pick [] [] rfl rfl (by decide),rfl⟩⟩
  ·refine E.opvg hF (cF (Eq.trans hF.o (congrArg Value.bool (eq_false_of_ne_true hc10))) (bT _ true rfl)) (aA rfl rfl (Eq.trans hF.q (congrArg Value.bool hc8)) rfl) rfl rfl rfl fun a hF=>?_
   refine oV hF (aH (Eq.trans (hF.at 3 rfl) (congrArg Value.bool hc8)) hF.o) rfl fun a hF=>?_
   refine E.nil ?_
   refine wp_cond_true hF.o ?_
   refine wq ?_
   refine oM hF 8 rfl rfl fun a hF=>oE hF 0 rfl rfl fun a hF=>nr ?_
   have bel:=st.bel
   refine rt Tryz.results67 hF 0 rfl ?_
   exact⟨bS (lE (Jb hc8 hc10)).symm,bel⟩
 ·refine E.unwanted hF (aA rfl rfl (Eq.trans hF.o (congrArg Value.bool (eq_false_of_ne_true hc8))) rfl) rfl rfl rfl fun a hF=>?_
  refine E.unwanted hF (aA rfl rfl (Eq.trans hF.p (congrArg Value.bool (eq_false_of_ne_true hc8))) rfl) rfl rfl rfl fun a hF=>?_
  refine E.unwanted hF (aA rfl rfl (Eq.trans hF.q (congrArg Value.bool (eq_false_of_ne_true hc8))) rfl) rfl rfl rfl fun a hF=>?_
  refine oV hF (bp (Eq.trans (hF.at 3 rfl) (congrArg Value.bool (eq_false_of_ne_true hc8))) ar) rfl fun a hF=>?_
  refine E.nil ?_
  refine wp_cond_false hF.o ?_
  refine wp_skip ?_
  refine E.norm ?_
  refine wp_seq ?_
  refine E.rg 11 aF hF [17,18,19,20,21,22,23,24,25,26,4] [_,.ex (.int .i64 ((Rat.floor (q1))-1)),_,_,_,_,_,_,_,.ex (.int .i64 (min ((Rat.floor (q1))-1) (Rat.floor ((q1)-((bi (q1))*(((10:Int):Rat)/((135:Int):Rat))))))),.ex (.int .i64 (min ((Rat.floor (q1))-1) (Rat.floor ((q1)-((bi (q1))*(((10:Int):Rat)/((135:Int):Rat)))))))] (by decide+kernel) rfl rfl rfl ⟨rm 8 rfl,(by intro a' w' hF' hb hd;have e17:=tE hd 0 rfl;exact dv0 (aq e17 ar ab (bN (by omega) (by omega))) rfl rfl rfl),rb st ag 12 0 rfl,rb st ag 12 0 rfl,ck st k41 rfl fun _ s=>pH ⟨(h1.below s.bel),li1⟩,ck st k71 rfl fun _ s=>aJ (bD (10) (135) _ (by decide) (by decide) (by decide) (by decide)) (ah.up (aK (ao (by decide) (by decide)) (ao (by decide) (by decide))) 2 (by decide)),ck st k75 rfl fun _ s _ x21 _ x22=>cD x21 x22,ck st k77 rfl fun _ s _ x23=>eB ⟨(h1.below s.bel),li1⟩ x23,ck st k74 rfl fun _ s _ x24=>a9 (lH _ ((q1)-((bi (q1))*(((10:Int):Rat)/((135:Int):Rat)))) (k+((6*k+22*i+1100)+2)+1) _ x24.1 (by omega) (by omega) (by have:=nA q1;omega) (by have:=nA q1;omega)),(by intro a' w' hF' hb hd;have e18:=tE hd 0 rfl;have e25:=tE hd 1 rfl;exact dv0 (bI (aI e18 e25) mt) rfl rfl rfl),(by intro a' w' hF' hb hd;have e26:=tE hd 0 rfl;exact dv0 (a8 e26) rfl rfl rfl),trivial⟩ ?_
  intro a w15 hF bb hall
  replace st:=st.to bb
  replace hF:=rE hall hF 10 rfl rfl
  clear hall bb
  refine ns ?_
  refine wq ?_
  refine oC hF rfl fun a hF=>?_
  refine E.nil ?_
  refine wp_block ?_
  refine E.loop (fun mq a wv=>∃(j:Int) (m:Int),0≤m∧j=mO q1-m∧dV (Rat.floor q1)≤j∧¬gi q1=true∧Fr 39 a [(5,.int .i64 m),(4,.int .i64 j),(2,.int .i64 0)]∧St w wv [] []∧mq=(40-m:Int).toNat) ((40-0:Int).toNat) ?_ ?_
  ·exact⟨(min ((Rat.floor (q1))-1) (Rat.floor ((q1)-((bi (q1))*(((10:Int):Rat)/((135:Int):Rat)))))),0,(Int.le_refl _),(show _=mO q1-0 from(Int.sub_zero _).symm),(m9 (BI hc8)).1,(BI hc8),Fr.pick (L':=[(5,.int .i64 0),(4,.int .i64 (min ((Rat.floor (q1))-1) (Rat.floor ((q1)-((bi (q1))*(((10:Int):Rat)/((135:Int):Rat))))))),(2,.int .i64 0)]) hF [0,1,13] rfl,st.pick [] [] rfl rfl (by decide),rfl⟩
  ·rintro mq a w16 ⟨j,m,hm0,hj,hL,hno,hF,st,hm⟩
   have hlb:=m9 hno
   refine wp_seq ?_
   refine wq ?_
   refine oM hF 0 rfl rfl fun a hF=>oT hF 0 (bM (c:=true) (aL (by omega))) rfl rfl fun a hF=>oM hF 0 rfl rfl fun a hF=>og hF (aN (hF.at 4 rfl)) 0 rfl rfl rfl fun a hF=>?_
   refine S.callxg st hF (aA rfl rfl hF.p rfl) (rgc DP (aD hF.o)) (kV j _ (by omega) (by omega)) rfl rfl rfl fun w17 a st hF=>?_
   by_cases hc18:bw j=true
   ·refine og hF (cF (Eq.trans hF.o (congrArg Value.bool hc18)) (bT _ false rfl)) 2 rfl rfl rfl fun a hF=>oV hF (aH (hF.at 3 rfl) hF.o) rfl fun a hF=>?_
    refine E.nil ?_
    refine wp_cond_false hF.o ?_
    refine wp_exit ?_
    refine E.past ?_
    refine E.past ?_
    refine E.out (id:=0) ?_
    refine E.norm ?_
    refine wq ?_
    refine oM hF 8 rfl rfl fun a hF=>oE hF 0 rfl rfl fun a hF=>nr ?_
    have bel:=st.bel
    refine rt Tryz.results67 hF 0 rfl ?_
    exact⟨bS (by rw[lr hno];exact qB hL (by omega) hc18),bel⟩
   ·refine og hF (cF (Eq.trans hF.o (congrArg Value.bool (eq_false_of_ne_true hc18))) (bT _ true rfl)) 2 rfl rfl rfl fun a hF=>oV hF (aH (hF.at 3 rfl) hF.o) rfl fun a hF=>?_
    refine E.nil ?_
    refine wp_cond_true hF.o ?_
    refine wp_skip ?_
    refine E.norm ?_
    refine wp_seq ?_
    refine wp_block ?_
    refine E.seq ?_
    refine oM hF 8 rfl rfl fun a hF=>oV hF (aq hF.o ar ab (bN (by omega) (by omega))) rfl fun a hF=>oE hF 0 rfl rfl fun a hF=>?_
    refine E.nil0 ?_
    refine E.blk ?_
    refine E.norm ?_
    refine E.seq ?_
    refine oM hF 10 rfl rfl fun a hF=>oV hF (aq hF.o ar ab (bj (by omega) (by omega))) rfl fun a hF=>oE hF 0 rfl rfl fun a hF=>?_
    refine E.nil0 ?_
    refine E.norm ?_
    exact⟨(40-(m+1):Int).toNat,by omega,⟨(j-1),(m+1),(by omega),(by omega),(by have:=qG hL hc18;omega),hno,Fr.pick (L':=[(5,.int .i64 (m+1)),(4,.int .i64 (j-1)),(2,.int .i64 0)]) hF [0,3,13] rfl,st.pick [] [] rfl rfl (by decide),rfl⟩⟩
theorem xS (n:Int) (w:World) (hn0: -900000000≤n) (hn1:n≤900000000) (hc:bw n=true):
 Calls Tryz.prog 117 #[.int .i64 n] w (aG w (.int .i64 (aQ n))):=by
 have st:=St.start w
 refine go1 (nt:=18) Tryz.func117 rfl rfl rfl fun a hF=>?_
 refine wq ?_
 refine oC hF rfl fun a hF=>nq ?_
 refine oM hF 1 rfl rfl fun a hF=>oV hF (aq hF.o ar ab (bj (by omega) (by omega))) rfl fun a hF=>oE hF 0 rfl rfl fun a hF=>ns ?_
 refine wq ?_
 refine oC hF rfl fun a hF=>?_
 refine E.nil ?_
 refine wp_block ?_
 refine E.loop (fun mq a wv=>∃(j:Int) (m:Int),0≤m∧j=n+25+m∧j≤aQ n∧Fr 18 a [(3,.int .i64 m),(0,.int .i64 j),(2,.int .i64 0)]∧St w wv [] []∧mq=(40-m:Int).toNat) ((40-0:Int).toNat) ?_ ?_
 ·exact⟨(n+25),0,(Int.le_refl _),(by omega),(by have:=cT hc;omega),Fr.pick (L':=[(3,.int .i64 0),(0,.int .i64 (n+25)),(2,.int .i64 0)]) hF [0,1,4] rfl,st.pick [] [] rfl rfl (by decide),rfl⟩
 ·rintro mq a w1 ⟨j,m,hm0,hj,hL,hF,st,hm⟩
  have hns:=cT hc
  refine wp_seq ?_
  refine wq ?_
  refine oM hF 0 rfl rfl fun a hF=>oT hF 0 (bM (c:=true) (aL (by omega))) rfl rfl fun a hF=>oM hF 0 rfl rfl fun a hF=>og hF (aN (hF.at 4 rfl)) 0 rfl rfl rfl fun a hF=>?_
  refine S.callxg st hF (aA rfl rfl hF.p rfl) (rgc DP (aD hF.o)) (kV j _ (by omega) (by omega)) rfl rfl rfl fun w2 a st hF=>?_
  by_cases hc3:bw j=true
  ·refine og hF (cF (Eq.trans hF.o (congrArg Value.bool hc3)) (bT _ false rfl)) 2 rfl rfl rfl fun a hF=>oV hF (aH (hF.at 3 rfl) hF.o) rfl fun a hF=>?_
   refine E.nil ?_
   refine wp_cond_false hF.o ?_
   refine wp_exit ?_
   refine E.past ?_
   refine E.past ?_
   refine E.out (id:=0) ?_
   refine E.norm ?_
   refine wq ?_
   refine oM hF 8 rfl rfl fun a hF=>oE hF 0 rfl rfl fun a hF=>nr ?_
   have bel:=st.bel
   refine rt Tryz.results117 hF 0 rfl ?_
   exact⟨bS (wj hc (by omega) hL hc3),bel⟩
  ·refine og hF (cF (Eq.trans hF.o (congrArg Value.bool (eq_false_of_ne_true hc3))) (bT _ true rfl)) 2 rfl rfl rfl fun a hF=>oV hF (aH (hF.at 3 rfl) hF.o) rfl fun a hF=>?_
   refine E.nil ?_
   refine wp_cond_true hF.o ?_
   refine wp_skip ?_
   refine E.norm ?_
   refine wp_seq ?_
   refine wp_block ?_
   refine E.seq ?_
   refine oM hF 8 rfl rfl fun a hF=>oV hF (aq hF.o ar ab (bj (by omega) (by omega))) rfl fun a hF=>oE hF 0 rfl rfl fun a hF=>?_
   refine E.nil0 ?_
   refine E.blk ?_
   refine E.norm ?_
   refine E.seq ?_
   refine oM hF 10 rfl rfl fun a hF=>oV hF (aq hF.o ar ab (bj (by omega) (by omega))) rfl fun a hF=>oE hF 0 rfl rfl fun a hF=>?_
   refine E.nil0 ?_
   refine E.norm ?_
   exact⟨(40-(m+1):Int).toNat,by omega,⟨(j+1),(m+1),(by omega),(by omega),(by have:=uO hc (by omega) hL hc3;omega),Fr.pick (L':=[(3,.int .i64 (m+1)),(0,.int .i64 (j+1)),(2,.int .i64 0)]) hF [0,3,13] rfl,st.pick [] [] rfl rfl (by decide),rfl⟩⟩
theorem Iv (p:Rat→Bool) (lo hi:Rat) {m i:Nat} (h:i≤m):dct p lo hi m i+dsz m i≤2^m:=by
 by_cases q:i<m
 ·have b:=gE p lo hi i
  have t:=eU (m-1-i)
  unfold dct dsz
  rw[if_pos q,show(2:Int)^(m-i)=2*2^(m-1-i) by rw[show m-i=(m-1-i)+1 by omega,fi],show(2:Int)^m=2^(i+1)*2^(m-1-i) by rw[←Int.pow_add];congr 1;omega]
  have e:=fi i
  have le:=Int.mul_le_mul_of_nonneg_right (show 2*hlv p lo hi i+1≤2^(i+1) by omega) (Int.le_of_lt t)
  grind
 ·have b:=BN p lo hi h
  unfold dsz
  rw[if_neg q];omega
theorem tZ {m i:Nat} (h:i<m):dsz m i/2=dsz m (i+1):=by
 have:=Ew h
 rwa[Int.tdiv_eq_ediv_of_nonneg (CT (m:=m) (i:=i)).1] at this
theorem yQ (n z:Int):(((1024*n+z:Int)):Rat)/((1024:Int):Rat)=atR ((n:Int):Rat) (((n+1:Int)):Rat) z 1024:=by
 unfold atR
 simp only [Rat.intCast_add,Rat.intCast_mul]
 rw[show((1024:Int):Rat)=1024 from rfl,show((1:Int):Rat)=1 from rfl]
 generalize ((n:Int):Rat)=y
 generalize ((z:Int):Rat)=u
 grind
theorem xi {n:Int} {i:Nat} (h:i<10):(((1024*n+dct wax ((n:Int):Rat) (((n+1:Int)):Rat) 10 i+dsz 10 i:Int)):Rat)/((1024:Int):Rat)=hmi wax ((n:Int):Rat) (((n+1:Int)):Rat) i:=by
 rw[←Hx wax ((n:Int):Rat) (((n+1:Int)):Rat) h,Int.add_assoc,yQ]
 rfl
theorem L6 {n:Int} {i:Nat} (h:i<10) (e:full ((((1024*n+dct wax ((n:Int):Rat) (((n+1:Int)):Rat) 10 i+dsz 10 i:Int)):Rat)/((1024:Int):Rat))=true):dct wax ((n:Int):Rat) (((n+1:Int)):Rat) 10 (i+1)=dct wax ((n:Int):Rat) (((n+1:Int)):Rat) 10 i+dsz 10 i:=by
 rw[xi h] at e
 exact MS h (zI.2 e)
theorem Lg {n:Int} {i:Nat} (h:i<10) (e:¬full ((((1024*n+dct wax ((n:Int):Rat) (((n+1:Int)):Rat) 10 i+dsz 10 i:Int)):Rat)/((1024:Int):Rat))=true):dct wax ((n:Int):Rat) (((n+1:Int)):Rat) 10 (i+1)=dct wax ((n:Int):Rat) (((n+1:Int)):Rat) 10 i:=by
 rw[xi h] at e
 exact MJ h (AR.2 (eq_false_of_ne_true e))
theorem xx (n:Int) (w:World) (hn0: -1000000000≤n) (hn1:n≤1000000000):
 Calls Tryz.prog 169 #[.int .i64 n] w (aG w (.int .i64 (hlv wax ((n:Int):Rat) (((n+1:Int)):Rat) 10))):=by
 have st:=St.start w
 refine go1 (nt:=21) Tryz.func169 rfl rfl rfl fun a hF=>?_
 refine wq ?_
 refine oC hF rfl fun a hF=>nq ?_
 refine oC hF rfl fun a hF=>ns ?_
 refine wq ?_
 refine oC hF rfl fun a hF=>?_
 refine E.nil ?_
 refine wp_block ?_
 replace hF:Fr 21 a [(4,.int .i64 (dsz 10 0)),(3,.int .i64 (dct wax ((n:Int):Rat) (((n+1:Int)):Rat) 10 0)),(2,.int .i64 0),(0,.int .i64 n)]:=by rw[show dct wax ((n:Int):Rat) (((n+1:Int)):Rat) 10 0=0 from FB _ _ _ _];rw[show dsz 10 0=512 from by decide+kernel];exact hF
 refine E.loop (fun mq a wv=>∃(i:Nat),i≤10∧Fr 21 a [(4,.int .i64 (dsz 10 i)),(3,.int .i64 (dct wax ((n:Int):Rat) (((n+1:Int)):Rat) 10 i)),(2,.int .i64 0),(0,.int .i64 n)]∧St w wv [] []∧mq=10-i) ((10-0)) ?_ ?_
 ·exact⟨0,(Nat.zero_le _),Fr.pick (L':=[(4,.int .i64 (dsz 10 0)),(3,.int .i64 (dct wax ((n:Int):Rat) (((n+1:Int)):Rat) 10 0)),(2,.int .i64 0),(0,.int .i64 n)]) hF [0,1,2,3] rfl,st.pick [] [] rfl rfl (by decide),rfl⟩
 ·rintro mq a w1 ⟨i,hi,hF,st,hm⟩
  have hd:=BN wax ((n:Int):Rat) (((n+1:Int)):Rat) (m:=10) (i:=i) hi
  have hs:=CT (m:=10) (i:=i)
  have hds:=Iv wax ((n:Int):Rat) (((n+1:Int)):Rat) (m:=10) (i:=i) hi
  rw[show(2:Int)^10=1024 from by decide+kernel] at hd hs hds
  refine wp_seq ?_
  refine wq ?_
  refine oM hF 0 rfl rfl fun a hF=>?_
  by_cases hc2:0<dsz 10 i
  ·refine oT hF 0 (db (c:=true) (aL hc2)) rfl rfl fun a hF=>?_
   refine E.nil ?_
   refine wp_cond_true hF.o ?_
   refine wp_skip ?_
   refine E.norm ?_
   refine wp_seq ?_
   refine wp_block ?_
   refine wq ?_
   refine oM hF 5 rfl rfl fun a hF=>oV hF (aq ar hF.o ab (eL (by omega) (by omega))) rfl fun a hF=>oM hF 5 rfl rfl fun a hF=>oV hF (aq hF.p hF.o ab (bj (by omega) (by omega))) rfl fun a hF=>oM hF 6 rfl rfl fun a hF=>oV hF (aq hF.p hF.o ab (bj (by omega) (by omega))) rfl fun a hF=>?_
   refine S.ck st hF (rgc k71 (aI hF.o ar)) (aJ (bD (((1024*n)+(dct wax ((n:Int):Rat) (((n+1:Int)):Rat) 10 i))+(dsz 10 i)) (1024) _ (by omega) (by omega) (by decide) (by decide)) (ah.up (aK (ao (by omega) (by omega)) (ao (by decide) (by decide))) 2 (by decide))) Rh.cl rfl fun vv4 w3 a st hF=>?_
   obtain⟨r6,rfl⟩:=Rr.fo (st.f 0 rfl).1
   refine cX st hF (rgc uM (aD hF.o)) (iw _ _ 2 2 _ (st.f 0 rfl).1 (st.f 0 rfl).2 (by omega) (by omega) (by omega)) rfl fun w7 a st hF=>?_
   refine E.nil ?_
   by_cases hc8:full (((((1024*n)+(dct wax ((n:Int):Rat) (((n+1:Int)):Rat) 10 i))+(dsz 10 i):Int):Rat)/((1024:Int):Rat))=true
   ·refine wp_cond_true (Eq.trans hF.o (congrArg Value.bool hc8)) ?_
    refine E.seq ?_
    refine oM hF 11 rfl rfl fun a hF=>oM hF 11 rfl rfl fun a hF=>oV hF (aq hF.p hF.o ab (bj (by omega) (by omega))) rfl fun a hF=>oE hF 0 rfl rfl fun a hF=>?_
    refine E.nil0 ?_
    refine E.blk ?_
    refine E.norm ?_
    refine E.seq ?_
    refine oM hF 14 rfl rfl fun a hF=>oV hF (aq hF.o ar ab (s7 (a:=dsz 10 i) (b:=2) (by omega) (by omega) (by omega) (by omega))) rfl fun a hF=>oE hF 0 rfl rfl fun a hF=>?_
    refine E.nil0 ?_
    refine E.norm ?_
    replace hF:Fr 21 a [(4,.int .i64 (dsz 10 (i+1))),(8,.int .i64 ((dsz 10 i)/2)),(7,.int .i64 (dsz 10 i)),(3,.int .i64 (dct wax ((n:Int):Rat) (((n+1:Int)):Rat) 10 (i+1))),(19,.int .i64 ((dct wax ((n:Int):Rat) (((n+1:Int)):Rat) 10 i)+(dsz 10 i))),(18,.int .i64 (dsz 10 i)),(17,.int .i64 (dct wax ((n:Int):Rat) (((n+1:Int)):Rat) 10 i)),(16,.bool (full (((((1024*n)+(dct wax ((n:Int):Rat) (((n+1:Int)):Rat) 10 i))+(dsz 10 i):Int):Rat)/((1024:Int):Rat)))),(15,r6.v),(14,.int .i64 (((1024*n)+(dct wax ((n:Int):Rat) (((n+1:Int)):Rat) 10 i))+(dsz 10 i))),(13,.int .i64 (dsz 10 i)),(12,.int .i64 ((1024*n)+(dct wax ((n:Int):Rat) (((n+1:Int)):Rat) 10 i))),(11,.int .i64 (dct wax ((n:Int):Rat) (((n+1:Int)):Rat) 10 i)),(10,.int .i64 (1024*n)),(9,.int .i64 n),(6,.bool true),(5,.int .i64 (dsz 10 i)),(2,.int .i64 0),(0,.int .i64 n)]:=by rw[show dct wax ((n:Int):Rat) (((n+1:Int)):Rat) 10 (i+1)=(dct wax ((n:Int):Rat) (((n+1:Int)):Rat) 10 i)+(dsz 10 i) from L6 (ii.1 hc2) hc8];rw[show dsz 10 (i+1)=(dsz 10 i)/2 from(tZ (ii.1 hc2)).symm];exact hF
    have hlt:=ii.1 hc2
    exact⟨(10-(i+1)),by omega,⟨(i+1),(ii.1 hc2),Fr.pick (L':=[(4,.int .i64 (dsz 10 (i+1))),(3,.int .i64 (dct wax ((n:Int):Rat) (((n+1:Int)):Rat) 10 (i+1))),(2,.int .i64 0),(0,.int .i64 n)]) hF [0,3,17,18] rfl,st.pick [] [] rfl rfl (by decide),rfl⟩⟩
   ·refine wp_cond_false (Eq.trans hF.o (congrArg Value.bool (eq_false_of_ne_true hc8))) ?_
    refine wp_skip ?_
    refine E.blk ?_
    refine E.norm ?_
    refine E.seq ?_
    refine oM hF 10 rfl rfl fun a hF=>oV hF (aq hF.o ar ab (s7 (a:=dsz 10 i) (b:=2) (by omega) (by omega) (by omega) (by omega))) rfl fun a hF=>oE hF 0 rfl rfl fun a hF=>?_
    refine E.nil0 ?_
    refine E.norm ?_
    replace hF:Fr 21 a [(4,.int .i64 (dsz 10 (i+1))),(8,.int .i64 ((dsz 10 i)/2)),(7,.int .i64 (dsz 10 i)),(16,.bool (full (((((1024*n)+(dct wax ((n:Int):Rat) (((n+1:Int)):Rat) 10 i))+(dsz 10 i):Int):Rat)/((1024:Int):Rat)))),(15,r6.v),(14,.int .i64 (((1024*n)+(dct wax ((n:Int):Rat) (((n+1:Int)):Rat) 10 i))+(dsz 10 i))),(13,.int .i64 (dsz 10 i)),(12,.int .i64 ((1024*n)+(dct wax ((n:Int):Rat) (((n+1:Int)):Rat) 10 i))),(11,.int .i64 (dct wax ((n:Int):Rat) (((n+1:Int)):Rat) 10 i)),(10,.int .i64 (1024*n)),(9,.int .i64 n),(6,.bool true),(5,.int .i64 (dsz 10 i)),(3,.int .i64 (dct wax ((n:Int):Rat) (((n+1:Int)):Rat) 10 (i+1))),(2,.int .i64 0),(0,.int .i64 n)]:=by rw[show dct wax ((n:Int):Rat) (((n+1:Int)):Rat) 10 (i+1)=dct wax ((n:Int):Rat) (((n+1:Int)):Rat) 10 i from Lg (ii.1 hc2) hc8];rw[show dsz 10 (i+1)=(dsz 10 i)/2 from(tZ (ii.1 hc2)).symm];exact hF
    have hlt:=ii.1 hc2
    exact⟨(10-(i+1)),by omega,⟨(i+1),(ii.1 hc2),Fr.pick (L':=[(4,.int .i64 (dsz 10 (i+1))),(3,.int .i64 (dct wax ((n:Int):Rat) (((n+1:Int)):Rat) 10 (i+1))),(2,.int .i64 0),(0,.int .i64 n)]) hF [0,13,14,15] rfl,st.pick [] [] rfl rfl (by decide),rfl⟩⟩
  ·refine oT hF 0 (db (c:=false) (aV hc2)) rfl rfl fun a hF=>?_
   refine E.nil ?_
   refine wp_cond_false hF.o ?_
   refine wp_exit ?_
   refine E.past ?_
   refine E.past ?_
   refine E.out (id:=0) ?_
   refine E.norm ?_
   refine wq ?_
   refine oM hF 3 rfl rfl fun a hF=>oE hF 0 rfl rfl fun a hF=>nr ?_
   have bel:=st.bel
   refine rt Tryz.results169 hF 0 rfl ?_
   have hge:¬i<10:=fun e=>hc2 (ii.2 e)
   have e:i=10:=by omega
   subst e
   exact⟨bS (Jc _ _ _ _),bel⟩
end Go.Proofs.YtdbiegfmgabicaaGreatDoor
