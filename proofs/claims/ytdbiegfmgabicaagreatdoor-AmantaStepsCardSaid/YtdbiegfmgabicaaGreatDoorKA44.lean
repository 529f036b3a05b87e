import Derived.Test.YtdbiegfmgabicaaGreatDoorKA42
namespace Go.Proofs.YtdbiegfmgabicaaGreatDoor
open Go.RowKit
set_option maxRecDepth 100000
set_option linter.unusedVariables false
set_option maxHeartbeats 8000000
theorem ff {a b c d e:Bool} (h:a=c) (k:b=d) (m:(c == d)=e):(a == b)=e:=by rw[h,k,m]
theorem amantaSteps_walk (n wa wb wc wd:Int) (w:World) (hT:bG w):
 Calls Tryz.prog 4 #[.int .i64 n,.agg #[.int .i64 wa,.int .i64 wb,.int .i64 wc,.int .i64 wd]] w (aG w (.bool true)):=by
 obtain⟨pa,hpa⟩:∃z:Int,gA 60 120 wa wb=z:=⟨_,rfl⟩
 obtain⟨pb,hpb⟩:∃z:Int,gB wb=z:=⟨_,rfl⟩
 obtain⟨pc,hpc⟩:∃z:Int,gA 180 360 wc wd=z:=⟨_,rfl⟩
 obtain⟨pd,hpd⟩:∃z:Int,gB wd=z:=⟨_,rfl⟩
 have hok:cf pa pb pc pd:=by rw[←hpa,←hpb,←hpc,←hpd];exact jz wa wb wc wd
 have hp1:=hok.b0
 have hp2:=hok.b1
 have hp3:=hok.a0
 have hp4:=hok.a1
 have hp5:=hok.d0
 have hp6:=hok.d1
 have hp7:=hok.c0
 have hp8:=hok.c1
 obtain⟨ny,hny⟩:∃z:Int,inD n=z:=⟨_,rfl⟩
 have hin0:=oH n
 rw[hny] at hin0
 obtain⟨X0,hX0⟩:∃z:Int,amX ny pa pb pc pd=z:=⟨_,rfl⟩
 obtain⟨L0,hL0⟩:∃z:Int,amL ny pa pb pc pd=z:=⟨_,rfl⟩
 obtain⟨X1,hX1⟩:∃z:Int,amX (ny+1) pa pb pc pd=z:=⟨_,rfl⟩
 obtain⟨L1,hL1⟩:∃z:Int,amL (ny+1) pa pb pc pd=z:=⟨_,rfl⟩
 obtain⟨X9,hX9⟩:∃z:Int,amX (ny-1) pa pb pc pd=z:=⟨_,rfl⟩
 obtain⟨L9,hL9⟩:∃z:Int,amL (ny-1) pa pb pc pd=z:=⟨_,rfl⟩
 have hX8:amX (ny+1-1) pa pb pc pd=X0:=by rw[show ny+1-1=ny by omega];exact hX0
 have hgo:=Nq hok ny
 rw[hX0,hX1,hX9,hL0,hL1] at hgo
 have st:=St.start w
 refine go2 (nt:=77) Tryz.func4 rfl rfl rfl fun a hF=>?_
 refine wq ?_
 refine bx st hF 1 rfl rfl fun g3 w1 a st hF=>?_
 refine oC hF rfl fun a hF=>ns ?_
 refine wq ?_
 refine cX st hF (rgc k9 ir) (gK _ (hT.below st.bel)) rfl fun w2 a st hF=>?_
 refine oV hF (cF hF.o (bT _ false rfl)) rfl fun a hF=>?_
 refine E.nil ?_
 refine wp_cond_false hF.o ?_
 refine wp_skip ?_
 refine E.norm ?_
 refine wp_seq ?_
 refine E.rga 6 aF hF [13,14,15,16,6,5] [_,_,_,_,kb w2 [.int .i64 0,.int .i64 0,.int .i64 0,.int .i64 0],.ex (.int .i64 ny)] [4] ⟨fun _ _ ⟨g,e,_,o⟩=>⟨g,e,o.lt⟩,trivial⟩ (by decide+kernel) rfl rfl rfl ⟨rm 4 rfl,ck st k10 rfl fun _ s=>a9 (kM _ hny),rb st uV 3 0 rfl,ck st k11 rfl fun _ s=>a9 (qD _ hpa hpb hpc hpd),rai aZ rfl,(by intro a' w' hF' hb hd;have e14:=tE hd 0 rfl;exact dv0 (a8 e14) rfl rfl rfl),trivial⟩ ?_
 intro a w3 hF bb hall hne
 have s0:=st
 replace st:=st.to bb
 replace hF:=rE hall hF 3 rfl rfl
 obtain⟨_,e6,g6,rfl,ge6,o6⟩:=sS hall 4 6 rfl rfl
 replace st:=st.push o6 (Nat.le_trans s0.bel.size ge6) (s0.ne ge6)
 clear o6
 replace hF:=hF.add e6
 replace hF:=rE hall hF 5 rfl rfl
 clear hall bb hne s0
 refine S.stoI st hF 0 rfl hF.p hF.q aZ rfl rfl rfl fun w4 a st hF=>?_
 refine ns ?_
 refine E.rga 9 aF hF [17,18,19,20,21,22,23,7,8] [_,_,_,_,.ex (.int .i64 (ny+1)),_,_,kb w4 [.int .i64 0,.int .i64 0,.bool false,.int .i64 0,.bool false],kb w4 [.int .i64 0,.int .i64 0,.bool false,.int .i64 0,.bool false]] [7,8] ⟨fun _ _ ⟨g,e,_,o⟩=>⟨g,e,o.lt⟩,⟨fun _ _ ⟨g,e,_,o⟩=>⟨g,e,o.lt⟩,trivial⟩⟩ (by decide+kernel) rfl rfl rfl ⟨rm 0 rfl,rb st aZ 1 0 rfl,ck st k18 rfl fun _ s=>a9 (gL ny pa pb pc pd L0 X0 X9 _ (hT.below s.bel) (by first|assumption|constructor<;>omega) (by omega) (by omega) hL0 hX0 hX9),rm 0 rfl,(by intro a' w' hF' hb hd;have e20:=tE hd 0 rfl;exact dv0 (aq e20 ar ab (bj (by omega) (by omega))) rfl rfl rfl),rb st aZ 1 0 rfl,ck st k18 rfl fun _ s=>a9 (gL (ny+1) pa pb pc pd L1 X1 X0 _ (hT.below s.bel) (by first|assumption|constructor<;>omega) (by omega) (by omega) hL1 hX1 hX8),rai cL rfl,rai cL rfl,trivial⟩ ?_
 intro a w5 hF bb hall hne
 have s0:=st
 replace st:=st.to bb
 replace hF:=rE hall hF 2 rfl rfl
 replace hF:=rE hall hF 6 rfl rfl
 obtain⟨_,e7,g7,rfl,ge7,o7⟩:=sS hall 7 7 rfl rfl
 replace st:=st.push o7 (Nat.le_trans s0.bel.size ge7) (s0.ne ge7)
 clear o7
 replace hF:=hF.add e7
 obtain⟨_,e8,g8,rfl,ge8,o8⟩:=sS hall 8 8 rfl rfl
 replace st:=st.push o8 (Nat.le_trans s0.bel.size ge8) (mv (fun(e:g7=g8)=>hne 7 8 7 8 rfl rfl (by decide) rfl rfl (by rw[e7,e8,e])) (s0.ne ge8))
 clear o8
 replace hF:=hF.add e8
 clear hall bb hne s0
 refine S.stoI st hF 1 rfl hF.p (hF.at 3 rfl) cL rfl rfl rfl fun w6 a st hF=>?_
 refine S.stoI st hF 0 rfl hF.o hF.q cL rfl rfl rfl fun w7 a st hF=>?_
 refine nq ?_
 refine oV hF (av hF.o (cG (p:=3) rfl)) rfl fun a hF=>oV hF (au hF.o (bA (v:= .int .i64 (X1%30+1)) (st.bk 0 rfl) rfl)) rfl fun a hF=>oV hF (av (hF.at 3 rfl) (cG (p:=3) rfl)) rfl fun a hF=>oV hF (au hF.o (bA (v:= .int .i64 (X0%30+1)) (st.bk 1 rfl) rfl)) rfl fun a hF=>oV hF (aq hF.q hF.o ab (bN (by omega) (by omega))) rfl fun a hF=>oV hF (aq hF.o ar ab (bj (by omega) (by omega))) rfl fun a hF=>oV hF (aq hF.o ar ab (kD (a:=((X1%30+1)-(X0%30+1))+30) (b:=30) (by omega) (by omega))) rfl fun a hF=>?_
 refine oA hF 0 rfl rfl fun a hF=>nq ?_
 refine oV hF (av (hF.at 8 rfl) (li (p:=0) rfl)) rfl fun a hF=>oV hF (au hF.o (bQ (v:= .int .i64 ((smV L1+1)/12-1955883044)) (st.bk 0 rfl) rfl)) rfl fun a hF=>oV hF (av (hF.at 11 rfl) (li (p:=0) rfl)) rfl fun a hF=>oV hF (au hF.o (bQ (v:= .int .i64 ((smV L0+1)/12-1955883044)) (st.bk 1 rfl) rfl)) rfl fun a hF=>?_
 by_cases hc8:X1=X0
 ·refine oU hF 2 0 (a6 (c:=true) (aL (by omega))) rfl rfl rfl fun a hF=>oM hF 0 rfl rfl fun a hF=>og hF (av (hF.at 14 rfl) (fJ (p:=1) rfl)) 0 rfl rfl rfl fun a hF=>og hF (au hF.o (bA (v:= .int .i64 ((smV L1+1)%12+1)) (st.bk 0 rfl) rfl)) 1 rfl rfl rfl fun a hF=>og hF (av (hF.at 17 rfl) (fJ (p:=1) rfl)) 2 rfl rfl rfl fun a hF=>og hF (au hF.o (bA (v:= .int .i64 ((smV L0+1)%12+1)) (st.bk 1 rfl) rfl)) 3 rfl rfl rfl fun a hF=>og hF (aq hF.q hF.o ab (aU (a6 (c:=true) (aL (by omega))) (by simp))) 4 rfl rfl rfl fun a hF=>?_
  refine oV hF (aH (hF.at 5 rfl) hF.o) rfl fun a hF=>oM hF 0 rfl rfl fun a hF=>og hF (av (hF.at 21 rfl) (hZ (p:=2) rfl)) 0 rfl rfl rfl fun a hF=>og hF (au hF.o (cz (v:= .bool (decide (smV (aQ L1)=smV L1))) (st.bk 0 rfl) rfl)) 1 rfl rfl rfl fun a hF=>og hF (av (hF.at 24 rfl) (hZ (p:=2) rfl)) 2 rfl rfl rfl fun a hF=>og hF (au hF.o (cz (v:= .bool (decide (smV (aQ L0)=smV L0))) (st.bk 1 rfl) rfl)) 3 rfl rfl rfl fun a hF=>og hF (aq hF.q hF.o ce (dL (d:=true) (by rw[show decide (smV (aQ L1)=smV L1)=decide (smV (aQ L0)=smV L0) from decide_eq_decide.2 (by omega)];exact beq_self_eq_true _))) 4 rfl rfl rfl fun a hF=>?_
  refine oV hF (aH (hF.at 5 rfl) hF.o) rfl fun a hF=>oA hF 0 rfl rfl fun a hF=>nq ?_
  refine oM hF 20 rfl rfl fun a hF=>oT hF 0 (cj (c:=true) (aL (by omega))) rfl rfl fun a hF=>oM hF 0 rfl rfl fun a hF=>og hF (av (hF.at 31 rfl) (dH (p:=4) rfl)) 0 rfl rfl rfl fun a hF=>og hF (au hF.o (cz (v:= .bool (decide (X0=X1))) (st.bk 0 rfl) rfl)) 1 rfl rfl rfl fun a hF=>og hF (aN (hF.at 25 rfl)) 2 rfl rfl rfl fun a hF=>og hF (aq hF.o ar ab (aU (a6 (c:=true) (aL (by omega))) (by simp))) 3 rfl rfl rfl fun a hF=>?_
  refine og hF (aq hF.q hF.o ce (dL (d:=true) (ff (decide_eq_true (by omega)) rfl rfl))) 4 rfl rfl rfl fun a hF=>oV hF (aH (hF.at 5 rfl) hF.o) rfl fun a hF=>oM hF 0 rfl rfl fun a hF=>og hF (av (hF.at 39 rfl) (dH (p:=4) rfl)) 0 rfl rfl rfl fun a hF=>og hF (au hF.o (cz (v:= .bool (decide (X9=X0))) (st.bk 1 rfl) rfl)) 1 rfl rfl rfl fun a hF=>og hF (aN hF.o) 2 rfl rfl rfl fun a hF=>?_
  refine E.unwanted hF (aA rfl rfl (Eq.trans hF.o (congrArg Value.bool (decide_eq_false (by omega)))) rfl) rfl rfl rfl fun a hF=>?_
  refine E.unwanted hF (aA rfl rfl (Eq.trans hF.p (congrArg Value.bool (decide_eq_false (by omega)))) rfl) rfl rfl rfl fun a hF=>?_
  refine og hF (bp (Eq.trans hF.q (congrArg Value.bool (decide_eq_false (by omega)))) ar) 5 rfl rfl rfl fun a hF=>og hF (cF hF.o (bT _ true rfl)) 6 rfl rfl rfl fun a hF=>oV hF (aH (hF.at 7 rfl) hF.o) rfl fun a hF=>oM hF 0 rfl rfl fun a hF=>og hF (aN (hF.at 19 rfl)) 0 rfl rfl rfl fun a hF=>og hF (av (hF.at 48 rfl) (cG (p:=3) rfl)) 1 rfl rfl rfl fun a hF=>og hF (au hF.o (bA (v:= .int .i64 (X1%30+1)) (st.bk 0 rfl) rfl)) 2 rfl rfl rfl fun a hF=>?_
  refine og hF (av (hF.at 51 rfl) (cG (p:=3) rfl)) 3 rfl rfl rfl fun a hF=>og hF (au hF.o (bA (v:= .int .i64 (X0%30+1)) (st.bk 1 rfl) rfl)) 4 rfl rfl rfl fun a hF=>og hF (aq hF.q hF.o ab (aU (cJ (c:=true) (aL (by omega))) (by simp))) 5 rfl rfl rfl fun a hF=>og hF (aq (hF.at 5 rfl) hF.o ce (dL (d:=true) (ff rfl rfl rfl))) 6 rfl rfl rfl fun a hF=>oV hF (aH (hF.at 7 rfl) hF.o) rfl fun a hF=>oE hF 0 rfl rfl fun a hF=>nr ?_
  have bel:=st.bel
  refine rt Tryz.results4 hF 0 rfl ?_
  exact⟨rfl,bel⟩
 ·by_cases hc9:X1/30=X0/30
  ·refine oU hF 2 0 (a6 (c:=true) (aL (by omega))) rfl rfl rfl fun a hF=>oM hF 0 rfl rfl fun a hF=>og hF (av (hF.at 14 rfl) (fJ (p:=1) rfl)) 0 rfl rfl rfl fun a hF=>og hF (au hF.o (bA (v:= .int .i64 ((smV L1+1)%12+1)) (st.bk 0 rfl) rfl)) 1 rfl rfl rfl fun a hF=>og hF (av (hF.at 17 rfl) (fJ (p:=1) rfl)) 2 rfl rfl rfl fun a hF=>og hF (au hF.o (bA (v:= .int .i64 ((smV L0+1)%12+1)) (st.bk 1 rfl) rfl)) 3 rfl rfl rfl fun a hF=>og hF (aq hF.q hF.o ab (aU (a6 (c:=true) (aL (by omega))) (by simp))) 4 rfl rfl rfl fun a hF=>?_
   refine oV hF (aH (hF.at 5 rfl) hF.o) rfl fun a hF=>oM hF 0 rfl rfl fun a hF=>og hF (av (hF.at 21 rfl) (hZ (p:=2) rfl)) 0 rfl rfl rfl fun a hF=>og hF (au hF.o (cz (v:= .bool (decide (smV (aQ L1)=smV L1))) (st.bk 0 rfl) rfl)) 1 rfl rfl rfl fun a hF=>og hF (av (hF.at 24 rfl) (hZ (p:=2) rfl)) 2 rfl rfl rfl fun a hF=>og hF (au hF.o (cz (v:= .bool (decide (smV (aQ L0)=smV L0))) (st.bk 1 rfl) rfl)) 3 rfl rfl rfl fun a hF=>og hF (aq hF.q hF.o ce (dL (d:=true) (by rw[show decide (smV (aQ L1)=smV L1)=decide (smV (aQ L0)=smV L0) from decide_eq_decide.2 (by omega)];exact beq_self_eq_true _))) 4 rfl rfl rfl fun a hF=>?_
   refine oV hF (aH (hF.at 5 rfl) hF.o) rfl fun a hF=>oA hF 0 rfl rfl fun a hF=>nq ?_
   refine oM hF 20 rfl rfl fun a hF=>oT hF 0 (cj (c:=true) (aL (by omega))) rfl rfl fun a hF=>oM hF 0 rfl rfl fun a hF=>og hF (av (hF.at 31 rfl) (dH (p:=4) rfl)) 0 rfl rfl rfl fun a hF=>og hF (au hF.o (cz (v:= .bool (decide (X0=X1))) (st.bk 0 rfl) rfl)) 1 rfl rfl rfl fun a hF=>og hF (aN (hF.at 25 rfl)) 2 rfl rfl rfl fun a hF=>og hF (aq hF.o ar ab (aU (a6 (c:=false) (aV (by omega))) (by simp))) 3 rfl rfl rfl fun a hF=>?_
   refine og hF (aq hF.q hF.o ce (dL (d:=true) (ff (decide_eq_false (by omega)) rfl rfl))) 4 rfl rfl rfl fun a hF=>oV hF (aH (hF.at 5 rfl) hF.o) rfl fun a hF=>oM hF 0 rfl rfl fun a hF=>og hF (av (hF.at 39 rfl) (dH (p:=4) rfl)) 0 rfl rfl rfl fun a hF=>og hF (au hF.o (cz (v:= .bool (decide (X9=X0))) (st.bk 1 rfl) rfl)) 1 rfl rfl rfl fun a hF=>og hF (aN hF.o) 2 rfl rfl rfl fun a hF=>?_
   by_cases hc10:X9=X0
   ·refine E.opvg hF (av (hF.at 41 rfl) (dH (p:=4) rfl)) (aA rfl rfl (Eq.trans hF.o (congrArg Value.bool (decide_eq_true (by omega)))) rfl) rfl rfl rfl fun a hF=>?_
    refine E.opvg hF (au hF.o (cz (v:= .bool (decide (X0=X1))) (st.bk 0 rfl) rfl)) (aA rfl rfl (Eq.trans hF.p (congrArg Value.bool (decide_eq_true (by omega)))) rfl) rfl rfl rfl fun a hF=>?_
    refine og hF (aH (Eq.trans hF.q (congrArg Value.bool (decide_eq_true (by omega)))) hF.o) 5 rfl rfl rfl fun a hF=>og hF (cF (Eq.trans hF.o (congrArg Value.bool (decide_eq_false (by omega)))) (bT _ true rfl)) 6 rfl rfl rfl fun a hF=>oV hF (aH (hF.at 7 rfl) hF.o) rfl fun a hF=>oM hF 0 rfl rfl fun a hF=>og hF (aN (hF.at 19 rfl)) 0 rfl rfl rfl fun a hF=>og hF (av (hF.at 48 rfl) (cG (p:=3) rfl)) 1 rfl rfl rfl fun a hF=>og hF (au hF.o (bA (v:= .int .i64 (X1%30+1)) (st.bk 0 rfl) rfl)) 2 rfl rfl rfl fun a hF=>?_
    refine og hF (av (hF.at 51 rfl) (cG (p:=3) rfl)) 3 rfl rfl rfl fun a hF=>og hF (au hF.o (bA (v:= .int .i64 (X0%30+1)) (st.bk 1 rfl) rfl)) 4 rfl rfl rfl fun a hF=>og hF (aq hF.q hF.o ab (aU (cJ (c:=true) (aL (by omega))) (by simp))) 5 rfl rfl rfl fun a hF=>og hF (aq (hF.at 5 rfl) hF.o ce (dL (d:=true) (ff rfl rfl rfl))) 6 rfl rfl rfl fun a hF=>oV hF (aH (hF.at 7 rfl) hF.o) rfl fun a hF=>oE hF 0 rfl rfl fun a hF=>nr ?_
    have bel:=st.bel
    refine rt Tryz.results4 hF 0 rfl ?_
    exact⟨rfl,bel⟩
   ·refine E.unwanted hF (aA rfl rfl (Eq.trans hF.o (congrArg Value.bool (decide_eq_false (by omega)))) rfl) rfl rfl rfl fun a hF=>?_
    refine E.unwanted hF (aA rfl rfl (Eq.trans hF.p (congrArg Value.bool (decide_eq_false (by omega)))) rfl) rfl rfl rfl fun a hF=>?_
    refine og hF (bp (Eq.trans hF.q (congrArg Value.bool (decide_eq_false (by omega)))) ar) 5 rfl rfl rfl fun a hF=>og hF (cF hF.o (bT _ true rfl)) 6 rfl rfl rfl fun a hF=>oV hF (aH (hF.at 7 rfl) hF.o) rfl fun a hF=>oM hF 0 rfl rfl fun a hF=>og hF (aN (hF.at 19 rfl)) 0 rfl rfl rfl fun a hF=>og hF (av (hF.at 48 rfl) (cG (p:=3) rfl)) 1 rfl rfl rfl fun a hF=>og hF (au hF.o (bA (v:= .int .i64 (X1%30+1)) (st.bk 0 rfl) rfl)) 2 rfl rfl rfl fun a hF=>?_
    refine og hF (av (hF.at 51 rfl) (cG (p:=3) rfl)) 3 rfl rfl rfl fun a hF=>og hF (au hF.o (bA (v:= .int .i64 (X0%30+1)) (st.bk 1 rfl) rfl)) 4 rfl rfl rfl fun a hF=>og hF (aq hF.q hF.o ab (aU (cJ (c:=true) (aL (by omega))) (by simp))) 5 rfl rfl rfl fun a hF=>og hF (aq (hF.at 5 rfl) hF.o ce (dL (d:=true) (ff rfl rfl rfl))) 6 rfl rfl rfl fun a hF=>oV hF (aH (hF.at 7 rfl) hF.o) rfl fun a hF=>oE hF 0 rfl rfl fun a hF=>nr ?_
    have bel:=st.bel
    refine rt Tryz.results4 hF 0 rfl ?_
    exact⟨rfl,bel⟩
  ·by_cases hc11:smV L1=smV L0
   ·refine oU hF 2 0 (a6 (c:=true) (aL (by omega))) rfl rfl rfl fun a hF=>oM hF 0 rfl rfl fun a hF=>og hF (av (hF.at 14 rfl) (fJ (p:=1) rfl)) 0 rfl rfl rfl fun a hF=>og hF (au hF.o (bA (v:= .int .i64 ((smV L1+1)%12+1)) (st.bk 0 rfl) rfl)) 1 rfl rfl rfl fun a hF=>og hF (av (hF.at 17 rfl) (fJ (p:=1) rfl)) 2 rfl rfl rfl fun a hF=>og hF (au hF.o (bA (v:= .int .i64 ((smV L0+1)%12+1)) (st.bk 1 rfl) rfl)) 3 rfl rfl rfl fun a hF=>og hF (aq hF.q hF.o ab (aU (a6 (c:=true) (aL (by omega))) (by simp))) 4 rfl rfl rfl fun a hF=>?_
    refine oV hF (aH (hF.at 5 rfl) hF.o) rfl fun a hF=>oM hF 0 rfl rfl fun a hF=>og hF (av (hF.at 21 rfl) (hZ (p:=2) rfl)) 0 rfl rfl rfl fun a hF=>og hF (au hF.o (cz (v:= .bool (decide (smV (aQ L1)=smV L1))) (st.bk 0 rfl) rfl)) 1 rfl rfl rfl fun a hF=>og hF (av (hF.at 24 rfl) (hZ (p:=2) rfl)) 2 rfl rfl rfl fun a hF=>og hF (au hF.o (cz (v:= .bool (decide (smV (aQ L0)=smV L0))) (st.bk 1 rfl) rfl)) 3 rfl rfl rfl fun a hF=>og hF (aq hF.q hF.o ce (dL (d:=false) (ff (decide_eq_false (by omega)) (decide_eq_true (by omega)) rfl))) 4 rfl rfl rfl fun a hF=>?_
    refine oV hF (aH (hF.at 5 rfl) hF.o) rfl fun a hF=>oA hF 0 rfl rfl fun a hF=>nq ?_
    refine oM hF 20 rfl rfl fun a hF=>oT hF 0 (cj (c:=true) (aL (by omega))) rfl rfl fun a hF=>oM hF 0 rfl rfl fun a hF=>og hF (av (hF.at 31 rfl) (dH (p:=4) rfl)) 0 rfl rfl rfl fun a hF=>og hF (au hF.o (cz (v:= .bool (decide (X0=X1))) (st.bk 0 rfl) rfl)) 1 rfl rfl rfl fun a hF=>og hF (aN (hF.at 25 rfl)) 2 rfl rfl rfl fun a hF=>og hF (aq hF.o ar ab (aU (a6 (c:=false) (aV (by omega))) (by simp))) 3 rfl rfl rfl fun a hF=>?_
    refine og hF (aq hF.q hF.o ce (dL (d:=true) (ff (decide_eq_false (by omega)) rfl rfl))) 4 rfl rfl rfl fun a hF=>oV hF (aH (hF.at 5 rfl) hF.o) rfl fun a hF=>oM hF 0 rfl rfl fun a hF=>og hF (av (hF.at 39 rfl) (dH (p:=4) rfl)) 0 rfl rfl rfl fun a hF=>og hF (au hF.o (cz (v:= .bool (decide (X9=X0))) (st.bk 1 rfl) rfl)) 1 rfl rfl rfl fun a hF=>og hF (aN hF.o) 2 rfl rfl rfl fun a hF=>?_
    by_cases hc12:X9=X0
    ·refine E.opvg hF (av (hF.at 41 rfl) (dH (p:=4) rfl)) (aA rfl rfl (Eq.trans hF.o (congrArg Value.bool (decide_eq_true (by omega)))) rfl) rfl rfl rfl fun a hF=>?_
     refine E.opvg hF (au hF.o (cz (v:= .bool (decide (X0=X1))) (st.bk 0 rfl) rfl)) (aA rfl rfl (Eq.trans hF.p (congrArg Value.bool (decide_eq_true (by omega)))) rfl) rfl rfl rfl fun a hF=>?_
     refine og hF (aH (Eq.trans hF.q (congrArg Value.bool (decide_eq_true (by omega)))) hF.o) 5 rfl rfl rfl fun a hF=>og hF (cF (Eq.trans hF.o (congrArg Value.bool (decide_eq_false (by omega)))) (bT _ true rfl)) 6 rfl rfl rfl fun a hF=>oV hF (aH (hF.at 7 rfl) hF.o) rfl fun a hF=>oM hF 0 rfl rfl fun a hF=>og hF (aN (hF.at 19 rfl)) 0 rfl rfl rfl fun a hF=>og hF (av (hF.at 48 rfl) (cG (p:=3) rfl)) 1 rfl rfl rfl fun a hF=>og hF (au hF.o (bA (v:= .int .i64 (X1%30+1)) (st.bk 0 rfl) rfl)) 2 rfl rfl rfl fun a hF=>?_
     refine og hF (av (hF.at 51 rfl) (cG (p:=3) rfl)) 3 rfl rfl rfl fun a hF=>og hF (au hF.o (bA (v:= .int .i64 (X0%30+1)) (st.bk 1 rfl) rfl)) 4 rfl rfl rfl fun a hF=>og hF (aq hF.q hF.o ab (aU (cJ (c:=false) (aV (by omega))) (by simp))) 5 rfl rfl rfl fun a hF=>og hF (aq (hF.at 5 rfl) hF.o ce (dL (d:=true) (ff rfl rfl rfl))) 6 rfl rfl rfl fun a hF=>oV hF (aH (hF.at 7 rfl) hF.o) rfl fun a hF=>oE hF 0 rfl rfl fun a hF=>nr ?_
     have bel:=st.bel
     refine rt Tryz.results4 hF 0 rfl ?_
     exact⟨rfl,bel⟩
    ·refine E.unwanted hF (aA rfl rfl (Eq.trans hF.o (congrArg Value.bool (decide_eq_false (by omega)))) rfl) rfl rfl rfl fun a hF=>?_
     refine E.unwanted hF (aA rfl rfl (Eq.trans hF.p (congrArg Value.bool (decide_eq_false (by omega)))) rfl) rfl rfl rfl fun a hF=>?_
     refine og hF (bp (Eq.trans hF.q (congrArg Value.bool (decide_eq_false (by omega)))) ar) 5 rfl rfl rfl fun a hF=>og hF (cF hF.o (bT _ true rfl)) 6 rfl rfl rfl fun a hF=>oV hF (aH (hF.at 7 rfl) hF.o) rfl fun a hF=>oM hF 0 rfl rfl fun a hF=>og hF (aN (hF.at 19 rfl)) 0 rfl rfl rfl fun a hF=>og hF (av (hF.at 48 rfl) (cG (p:=3) rfl)) 1 rfl rfl rfl fun a hF=>og hF (au hF.o (bA (v:= .int .i64 (X1%30+1)) (st.bk 0 rfl) rfl)) 2 rfl rfl rfl fun a hF=>?_
     refine og hF (av (hF.at 51 rfl) (cG (p:=3) rfl)) 3 rfl rfl rfl fun a hF=>og hF (au hF.o (bA (v:= .int .i64 (X0%30+1)) (st.bk 1 rfl) rfl)) 4 rfl rfl rfl fun a hF=>og hF (aq hF.q hF.o ab (aU (cJ (c:=false) (aV (by omega))) (by simp))) 5 rfl rfl rfl fun a hF=>og hF (aq (hF.at 5 rfl) hF.o ce (dL (d:=true) (ff rfl rfl rfl))) 6 rfl rfl rfl fun a hF=>oV hF (aH (hF.at 7 rfl) hF.o) rfl fun a hF=>oE hF 0 rfl rfl fun a hF=>nr ?_
     have bel:=st.bel
     refine rt Tryz.results4 hF 0 rfl ?_
     exact⟨rfl,bel⟩
   ·by_cases hc13:(smV L1+1)/12-1955883044=(smV L0+1)/12-1955883044
    ·refine oU hF 2 0 (a6 (c:=true) (aL hc13)) rfl rfl rfl fun a hF=>oM hF 0 rfl rfl fun a hF=>og hF (av (hF.at 14 rfl) (fJ (p:=1) rfl)) 0 rfl rfl rfl fun a hF=>og hF (au hF.o (bA (v:= .int .i64 ((smV L1+1)%12+1)) (st.bk 0 rfl) rfl)) 1 rfl rfl rfl fun a hF=>og hF (av (hF.at 17 rfl) (fJ (p:=1) rfl)) 2 rfl rfl rfl fun a hF=>og hF (au hF.o (bA (v:= .int .i64 ((smV L0+1)%12+1)) (st.bk 1 rfl) rfl)) 3 rfl rfl rfl fun a hF=>og hF (aq hF.q hF.o ab (aU (a6 (c:=false) (aV (by omega))) (by simp))) 4 rfl rfl rfl fun a hF=>?_
     refine oV hF (aH (hF.at 5 rfl) hF.o) rfl fun a hF=>oM hF 0 rfl rfl fun a hF=>nu hF 0 rfl rfl rfl fun a hF=>nu hF 1 rfl rfl rfl fun a hF=>nu hF 2 rfl rfl rfl fun a hF=>nu hF 3 rfl rfl rfl fun a hF=>nu hF 4 rfl rfl rfl fun a hF=>?_
     refine oV hF (bp (hF.at 5 rfl) ar) rfl fun a hF=>oA hF 0 rfl rfl fun a hF=>nq ?_
     refine oM hF 20 rfl rfl fun a hF=>oT hF 0 (cj (c:=true) (aL (by omega))) rfl rfl fun a hF=>oM hF 0 rfl rfl fun a hF=>og hF (av (hF.at 31 rfl) (dH (p:=4) rfl)) 0 rfl rfl rfl fun a hF=>og hF (au hF.o (cz (v:= .bool (decide (X0=X1))) (st.bk 0 rfl) rfl)) 1 rfl rfl rfl fun a hF=>og hF (aN (hF.at 25 rfl)) 2 rfl rfl rfl fun a hF=>og hF (aq hF.o ar ab (aU (a6 (c:=false) (aV (by omega))) (by simp))) 3 rfl rfl rfl fun a hF=>?_
     refine og hF (aq hF.q hF.o ce (dL (d:=true) (ff (decide_eq_false (by omega)) rfl rfl))) 4 rfl rfl rfl fun a hF=>oV hF (aH (hF.at 5 rfl) hF.o) rfl fun a hF=>oM hF 0 rfl rfl fun a hF=>og hF (av (hF.at 39 rfl) (dH (p:=4) rfl)) 0 rfl rfl rfl fun a hF=>og hF (au hF.o (cz (v:= .bool (decide (X9=X0))) (st.bk 1 rfl) rfl)) 1 rfl rfl rfl fun a hF=>og hF (aN hF.o) 2 rfl rfl rfl fun a hF=>?_
     by_cases hc14:X9=X0
     ·refine E.opvg hF (av (hF.at 41 rfl) (dH (p:=4) rfl)) (aA rfl rfl (Eq.trans hF.o (congrArg Value.bool (decide_eq_true (by omega)))) rfl) rfl rfl rfl fun a hF=>?_
      refine E.opvg hF (au hF.o (cz (v:= .bool (decide (X0=X1))) (st.bk 0 rfl) rfl)) (aA rfl rfl (Eq.trans hF.p (congrArg Value.bool (decide_eq_true (by omega)))) rfl) rfl rfl rfl fun a hF=>?_
      refine og hF (aH (Eq.trans hF.q (congrArg Value.bool (decide_eq_true (by omega)))) hF.o) 5 rfl rfl rfl fun a hF=>og hF (cF (Eq.trans hF.o (congrArg Value.bool (decide_eq_false (by omega)))) (bT _ true rfl)) 6 rfl rfl rfl fun a hF=>oV hF (aH (hF.at 7 rfl) hF.o) rfl fun a hF=>oM hF 0 rfl rfl fun a hF=>og hF (aN (hF.at 19 rfl)) 0 rfl rfl rfl fun a hF=>og hF (av (hF.at 48 rfl) (cG (p:=3) rfl)) 1 rfl rfl rfl fun a hF=>og hF (au hF.o (bA (v:= .int .i64 (X1%30+1)) (st.bk 0 rfl) rfl)) 2 rfl rfl rfl fun a hF=>?_
      refine og hF (av (hF.at 51 rfl) (cG (p:=3) rfl)) 3 rfl rfl rfl fun a hF=>og hF (au hF.o (bA (v:= .int .i64 (X0%30+1)) (st.bk 1 rfl) rfl)) 4 rfl rfl rfl fun a hF=>og hF (aq hF.q hF.o ab (aU (cJ (c:=false) (aV (by omega))) (by simp))) 5 rfl rfl rfl fun a hF=>og hF (aq (hF.at 5 rfl) hF.o ce (dL (d:=true) (ff rfl rfl rfl))) 6 rfl rfl rfl fun a hF=>oV hF (aH (hF.at 7 rfl) hF.o) rfl fun a hF=>oE hF 0 rfl rfl fun a hF=>nr ?_
      have bel:=st.bel
      refine rt Tryz.results4 hF 0 rfl ?_
      exact⟨rfl,bel⟩
     ·refine E.unwanted hF (aA rfl rfl (Eq.trans hF.o (congrArg Value.bool (decide_eq_false (by omega)))) rfl) rfl rfl rfl fun a hF=>?_
      refine E.unwanted hF (aA rfl rfl (Eq.trans hF.p (congrArg Value.bool (decide_eq_false (by omega)))) rfl) rfl rfl rfl fun a hF=>?_
      refine og hF (bp (Eq.trans hF.q (congrArg Value.bool (decide_eq_false (by omega)))) ar) 5 rfl rfl rfl fun a hF=>og hF (cF hF.o (bT _ true rfl)) 6 rfl rfl rfl fun a hF=>oV hF (aH (hF.at 7 rfl) hF.o) rfl fun a hF=>oM hF 0 rfl rfl fun a hF=>og hF (aN (hF.at 19 rfl)) 0 rfl rfl rfl fun a hF=>og hF (av (hF.at 48 rfl) (cG (p:=3) rfl)) 1 rfl rfl rfl fun a hF=>og hF (au hF.o (bA (v:= .int .i64 (X1%30+1)) (st.bk 0 rfl) rfl)) 2 rfl rfl rfl fun a hF=>?_
      refine og hF (av (hF.at 51 rfl) (cG (p:=3) rfl)) 3 rfl rfl rfl fun a hF=>og hF (au hF.o (bA (v:= .int .i64 (X0%30+1)) (st.bk 1 rfl) rfl)) 4 rfl rfl rfl fun a hF=>og hF (aq hF.q hF.o ab (aU (cJ (c:=false) (aV (by omega))) (by simp))) 5 rfl rfl rfl fun a hF=>og hF (aq (hF.at 5 rfl) hF.o ce (dL (d:=true) (ff rfl rfl rfl))) 6 rfl rfl rfl fun a hF=>oV hF (aH (hF.at 7 rfl) hF.o) rfl fun a hF=>oE hF 0 rfl rfl fun a hF=>nr ?_
      have bel:=st.bel
      refine rt Tryz.results4 hF 0 rfl ?_
      exact⟨rfl,bel⟩
    ·refine oU hF 2 0 (a6 (c:=false) (aV hc13)) rfl rfl rfl fun a hF=>oM hF 0 rfl rfl fun a hF=>nu hF 0 rfl rfl rfl fun a hF=>nu hF 1 rfl rfl rfl fun a hF=>nu hF 2 rfl rfl rfl fun a hF=>nu hF 3 rfl rfl rfl fun a hF=>nu hF 4 rfl rfl rfl fun a hF=>?_
     refine oV hF (bp (hF.at 5 rfl) ar) rfl fun a hF=>oM hF 0 rfl rfl fun a hF=>nu hF 0 rfl rfl rfl fun a hF=>nu hF 1 rfl rfl rfl fun a hF=>nu hF 2 rfl rfl rfl fun a hF=>nu hF 3 rfl rfl rfl fun a hF=>nu hF 4 rfl rfl rfl fun a hF=>?_
     refine oV hF (bp (hF.at 5 rfl) ar) rfl fun a hF=>oA hF 0 rfl rfl fun a hF=>nq ?_
     refine oM hF 20 rfl rfl fun a hF=>oT hF 0 (cj (c:=true) (aL (by omega))) rfl rfl fun a hF=>oM hF 0 rfl rfl fun a hF=>og hF (av (hF.at 31 rfl) (dH (p:=4) rfl)) 0 rfl rfl rfl fun a hF=>og hF (au hF.o (cz (v:= .bool (decide (X0=X1))) (st.bk 0 rfl) rfl)) 1 rfl rfl rfl fun a hF=>og hF (aN (hF.at 25 rfl)) 2 rfl rfl rfl fun a hF=>og hF (aq hF.o ar ab (aU (a6 (c:=false) (aV (by omega))) (by simp))) 3 rfl rfl rfl fun a hF=>?_
     refine og hF (aq hF.q hF.o ce (dL (d:=true) (ff (decide_eq_false (by omega)) rfl rfl))) 4 rfl rfl rfl fun a hF=>oV hF (aH (hF.at 5 rfl) hF.o) rfl fun a hF=>oM hF 0 rfl rfl fun a hF=>og hF (av (hF.at 39 rfl) (dH (p:=4) rfl)) 0 rfl rfl rfl fun a hF=>og hF (au hF.o (cz (v:= .bool (decide (X9=X0))) (st.bk 1 rfl) rfl)) 1 rfl rfl rfl fun a hF=>og hF (aN hF.o) 2 rfl rfl rfl fun a hF=>?_
     by_cases hc15:X9=X0
     ·refine E.opvg hF (av (hF.at 41 rfl) (dH (p:=4) rfl)) (aA rfl rfl (Eq.trans hF.o (congrArg Value.bool (decide_eq_true (by omega)))) rfl) rfl rfl rfl fun a hF=>?_
      refine E.opvg hF (au hF.o (cz (v:= .bool (decide (X0=X1))) (st.bk 0 rfl) rfl)) (aA rfl rfl (Eq.trans hF.p (congrArg Value.bool (decide_eq_true (by omega)))) rfl) rfl rfl rfl fun a hF=>?_
      refine og hF (aH (Eq.trans hF.q (congrArg Value.bool (decide_eq_true (by omega)))) hF.o) 5 rfl rfl rfl fun a hF=>og hF (cF (Eq.trans hF.o (congrArg Value.bool (decide_eq_false (by omega)))) (bT _ true rfl)) 6 rfl rfl rfl fun a hF=>oV hF (aH (hF.at 7 rfl) hF.o) rfl fun a hF=>oM hF 0 rfl rfl fun a hF=>og hF (aN (hF.at 19 rfl)) 0 rfl rfl rfl fun a hF=>og hF (av (hF.at 48 rfl) (cG (p:=3) rfl)) 1 rfl rfl rfl fun a hF=>og hF (au hF.o (bA (v:= .int .i64 (X1%30+1)) (st.bk 0 rfl) rfl)) 2 rfl rfl rfl fun a hF=>?_
      refine og hF (av (hF.at 51 rfl) (cG (p:=3) rfl)) 3 rfl rfl rfl fun a hF=>og hF (au hF.o (bA (v:= .int .i64 (X0%30+1)) (st.bk 1 rfl) rfl)) 4 rfl rfl rfl fun a hF=>og hF (aq hF.q hF.o ab (aU (cJ (c:=false) (aV (by omega))) (by simp))) 5 rfl rfl rfl fun a hF=>og hF (aq (hF.at 5 rfl) hF.o ce (dL (d:=true) (ff rfl rfl rfl))) 6 rfl rfl rfl fun a hF=>oV hF (aH (hF.at 7 rfl) hF.o) rfl fun a hF=>oE hF 0 rfl rfl fun a hF=>nr ?_
      have bel:=st.bel
      refine rt Tryz.results4 hF 0 rfl ?_
      exact⟨rfl,bel⟩
     ·refine E.unwanted hF (aA rfl rfl (Eq.trans hF.o (congrArg Value.bool (decide_eq_false (by omega)))) rfl) rfl rfl rfl fun a hF=>?_
      refine E.unwanted hF (aA rfl rfl (Eq.trans hF.p (congrArg Value.bool (decide_eq_false (by omega)))) rfl) rfl rfl rfl fun a hF=>?_
      refine og hF (bp (Eq.trans hF.q (congrArg Value.bool (decide_eq_false (by omega)))) ar) 5 rfl rfl rfl fun a hF=>og hF (cF hF.o (bT _ true rfl)) 6 rfl rfl rfl fun a hF=>oV hF (aH (hF.at 7 rfl) hF.o) rfl fun a hF=>oM hF 0 rfl rfl fun a hF=>og hF (aN (hF.at 19 rfl)) 0 rfl rfl rfl fun a hF=>og hF (av (hF.at 48 rfl) (cG (p:=3) rfl)) 1 rfl rfl rfl fun a hF=>og hF (au hF.o (bA (v:= .int .i64 (X1%30+1)) (st.bk 0 rfl) rfl)) 2 rfl rfl rfl fun a hF=>?_
      refine og hF (av (hF.at 51 rfl) (cG (p:=3) rfl)) 3 rfl rfl rfl fun a hF=>og hF (au hF.o (bA (v:= .int .i64 (X0%30+1)) (st.bk 1 rfl) rfl)) 4 rfl rfl rfl fun a hF=>og hF (aq hF.q hF.o ab (aU (cJ (c:=false) (aV (by omega))) (by simp))) 5 rfl rfl rfl fun a hF=>og hF (aq (hF.at 5 rfl) hF.o ce (dL (d:=true) (ff rfl rfl rfl))) 6 rfl rfl rfl fun a hF=>oV hF (aH (hF.at 7 rfl) hF.o) rfl fun a hF=>oE hF 0 rfl rfl fun a hF=>nr ?_
      have bel:=st.bel
      refine rt Tryz.results4 hF 0 rfl ?_
      exact⟨rfl,bel⟩
end Go.Proofs.YtdbiegfmgabicaaGreatDoor
