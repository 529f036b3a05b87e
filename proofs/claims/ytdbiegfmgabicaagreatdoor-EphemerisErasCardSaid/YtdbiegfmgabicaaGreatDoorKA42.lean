import Derived.Test.YtdbiegfmgabicaaGreatDoorKA41
namespace Go.Proofs.YtdbiegfmgabicaaGreatDoor
open Go.RowKit
set_option maxRecDepth 100000
set_option linter.unusedVariables false
set_option maxHeartbeats 8000000
theorem BO (wa wb wc wd:Int) (w:World):
 Calls Tryz.prog 11 #[.agg #[.int .i64 wa,.int .i64 wb,.int .i64 wc,.int .i64 wd]] w (aG w (.agg #[.int .i64 (gA 60 120 wa wb),.int .i64 (gB wb),.int .i64 (gA 180 360 wc wd),.int .i64 (gB wd)])):=by
 have st:=St.start w
 refine go1 (nt:=12) Tryz.func11 rfl rfl rfl fun a hF=>?_
 refine wq ?_
 refine bx st hF 0 rfl rfl fun g1 w1 a st hF=>?_
 refine S.alloc st hF aZ rfl rfl fun g2 w2 a st hF=>?_
 refine nq ?_
 refine oV hF (av hF.p (FJ (p:=0) rfl)) rfl fun a hF=>oV hF (au hF.o (bQ (v:= .int .i64 wa) (st.bk 1 rfl) rfl)) rfl fun a hF=>oV hF (av (hF.at 3 rfl) (Eo (p:=1) rfl)) rfl fun a hF=>oV hF (au hF.o (bQ (v:= .int .i64 wb) (st.bk 1 rfl) rfl)) rfl fun a hF=>oV hF (av (hF.at 5 rfl) (EB (p:=2) rfl)) rfl fun a hF=>oV hF (au hF.o (bQ (v:= .int .i64 wc) (st.bk 1 rfl) rfl)) rfl fun a hF=>oV hF (av (hF.at 7 rfl) (EZ (p:=3) rfl)) rfl fun a hF=>?_
 refine oV hF (au hF.o (bQ (v:= .int .i64 wd) (st.bk 1 rfl) rfl)) rfl fun a hF=>?_
 refine cX st hF (rgc k25 (lZ (hF.at 6 rfl) (hF.at 4 rfl) hF.q hF.o)) (wP wa wb wc wd _) rfl fun w3 a st hF=>?_
 have hg1:=mX wb
 have hg2:=sY wa wb
 have hg3:=mX wd
 have hg4:=sG wc wd
 have hok9250:=jz wa wb wc wd
 refine S.stoI st hF 0 rfl (hF.at 9 rfl) hF.o aZ rfl rfl rfl fun w4 a st hF=>?_
 refine nr ?_
 refine rs Tryz.results11 st hF 9 0 aZ rfl rfl rfl ?_
 have bel:=st.bel
 exact⟨rfl,bel⟩
theorem qD {wa wb wc wd pa pb pc pd:Int} (w:World) (ha:gA 60 120 wa wb=pa) (hb:gB wb=pb) (hc:gA 180 360 wc wd=pc) (hd:gB wd=pd):Calls Tryz.prog 11 #[.agg #[.int .i64 wa,.int .i64 wb,.int .i64 wc,.int .i64 wd]] w (aG w (.agg #[.int .i64 pa,.int .i64 pb,.int .i64 pc,.int .i64 pd])):=by
 subst ha hb hc hd
 exact BO wa wb wc wd w
theorem kM {n z:Int} (w:World) (h:inD n=z):Calls Tryz.prog 10 #[.int .i64 n] w (aG w (.int .i64 z)):=by
 subst h
 exact Ji n w
theorem MW {P:Program} {w:World} {t:TypeId} {r z:Int} (h:r%4=z):(binOp .and t (.int .i64 r) (.int .i64 3)).run P w= .ok (.int .i64 z) w:=by
 subst h
 exact Kx (n:=2) (by decide) (d:=4) (by decide) (by decide)
theorem jv {x y u v pa pb pc pd:Int} (w:World) (ha:gA 60 120 x y=pa) (hb:gB y=pb) (hc:gA 180 360 u v=pc) (hd:gB v=pd):Calls Tryz.prog 25 #[.int .i64 x,.int .i64 y,.int .i64 u,.int .i64 v] w (aG w (.agg #[.int .i64 pa,.int .i64 pb,.int .i64 pc,.int .i64 pd])):=by
 subst ha hb hc hd
 exact wP x y u v w
theorem eras_walk (n la lb lc ld r:Int) (w:World) (hT:bG w):
 Calls Tryz.prog 8 #[.int .i64 n,.int .i64 la,.int .i64 lb,.int .i64 lc,.int .i64 ld,.int .i64 r] w (aG w (.bool true)):=by
 obtain⟨pa,hpa⟩:∃z:Int,gA 60 120 la lb=z:=⟨_,rfl⟩
 obtain⟨pb,hpb⟩:∃z:Int,gB lb=z:=⟨_,rfl⟩
 obtain⟨pc,hpc⟩:∃z:Int,gA 180 360 lc ld=z:=⟨_,rfl⟩
 obtain⟨pd,hpd⟩:∃z:Int,gB ld=z:=⟨_,rfl⟩
 have hok:cf pa pb pc pd:=by rw[←hpa,←hpb,←hpc,←hpd];exact jz la lb lc ld
 have hp1:=hok.b0
 have hp2:=hok.b1
 have hp3:=hok.a0
 have hp4:=hok.a1
 have hp5:=hok.d0
 have hp6:=hok.d1
 have hp7:=hok.c0
 have hp8:=hok.c1
 obtain⟨er,her⟩:∃z:Int,r%4=z:=⟨_,rfl⟩
 have her0:0≤er∧er≤3:=by omega
 obtain⟨ny,hny⟩:∃z:Int,inD n=z:=⟨_,rfl⟩
 have hin0:=oH n
 rw[hny] at hin0
 obtain⟨X0,hX0⟩:∃z:Int,amX ny pa pb pc pd=z:=⟨_,rfl⟩
 obtain⟨L0,hL0⟩:∃z:Int,amL ny pa pb pc pd=z:=⟨_,rfl⟩
 obtain⟨X9,hX9⟩:∃z:Int,amX (ny-1) pa pb pc pd=z:=⟨_,rfl⟩
 obtain⟨L9,hL9⟩:∃z:Int,amL (ny-1) pa pb pc pd=z:=⟨_,rfl⟩
 have hcr:=J9 er hok ny
 rw[hL0] at hcr
 have hk3:=Ka er (n:=ny) hok (by omega) (by omega)
 have st:=St.start w
 refine E.enter (nt:=52) (L:=[(0,.int .i64 n),(1,.int .i64 la),(2,.int .i64 lb),(3,.int .i64 lc),(4,.int .i64 ld),(5,.int .i64 r)]) Tryz.func8 rfl rfl rfl (aP (i:=0) rfl (aP (i:=1) rfl (aP (i:=2) rfl (aP (i:=3) rfl (aP (i:=4) rfl (aP (i:=5) rfl dP)))))) ?_
 intro a hF
 refine wq ?_
 refine oC hF rfl fun a hF=>ns ?_
 refine wq ?_
 refine cX st hF (rgc k24 ir) (nE _) rfl fun w1 a st hF=>?_
 refine oV hF (cF hF.o (bT _ false rfl)) rfl fun a hF=>?_
 refine E.nil ?_
 refine wp_cond_false hF.o ?_
 refine wp_skip ?_
 refine E.norm ?_
 refine wq ?_
 refine oM hF 3 rfl rfl fun a hF=>?_
 refine cX st hF (rgc k10 (aD hF.o)) (kM _ hny) rfl fun w2 a st hF=>?_
 refine oA hF 0 rfl rfl fun a hF=>nq ?_
 refine oM hF 7 rfl rfl fun a hF=>oM hF 9 rfl rfl fun a hF=>oM hF 11 rfl rfl fun a hF=>oM hF 13 rfl rfl fun a hF=>?_
 refine cX st hF (rgc k25 (lZ (hF.at 3 rfl) hF.q hF.p hF.o)) (jv _ hpa hpb hpc hpd) rfl fun w3 a st hF=>?_
 refine S.new st hF 0 rfl aZ rfl rfl rfl rfl rfl fun g14 w4 a st hF=>?_
 refine nq ?_
 refine oM hF 6 rfl rfl fun a hF=>oL hF st 1 0 aZ rfl rfl rfl rfl fun a hF=>?_
 refine cX st hF (rgc k18 (aI hF.p hF.o)) (gL ny pa pb pc pd L0 X0 X9 _ (hT.below st.bel) (by first|assumption|constructor<;>omega) (by omega) (by omega) hL0 hX0 hX9) rfl fun w5 a st hF=>?_
 refine S.new st hF 0 rfl cL rfl rfl rfl rfl rfl fun g15 w6 a st hF=>?_
 refine nq ?_
 refine oM hF 21 rfl rfl fun a hF=>oV hF (aq hF.o ar ab (MW her)) rfl fun a hF=>oM hF 12 rfl rfl fun a hF=>oL hF st 7 1 aZ rfl rfl rfl rfl fun a hF=>?_
 refine cX st hF (rgc k31 (sV hF.q hF.p hF.o)) (EP er ny pa pb pc pd _ (hT.below st.bel) (by first|assumption|constructor<;>omega) (by omega) (by omega) (by omega) (by omega)) rfl fun w7 a st hF=>?_
 refine oM hF 0 rfl rfl fun a hF=>oV hF (aR (v:= .agg #[.int .i64 (kaV (cW er ny pa pb pc pd)/12-1955880000-3179),.int .i64 (kaV (cW er ny pa pb pc pd)%12+1),.int .i64 (ny-fsD (jf er pa pb pc pd) ny+1)]) hF.o rfl) rfl fun a hF=>oV hF (aR (v:= .int .i64 0) hF.p rfl) rfl fun a hF=>?_
 refine S.new st hF 1 rfl rU rfl rfl rfl rfl rfl fun g16 w8 a st hF=>?_
 refine oA hF 1 rfl rfl fun a hF=>nq ?_
 refine oV hF (av (hF.at 10 rfl) (li (p:=0) rfl)) rfl fun a hF=>oV hF (au hF.o (bQ (v:= .int .i64 ((smV L0+1)/12-1955883044)) (st.bk 1 rfl) rfl)) rfl fun a hF=>oV hF (av (hF.at 3 rfl) (wn (p:=0) rfl)) rfl fun a hF=>oV hF (au hF.o (bQ (v:= .int .i64 (kaV (cW er ny pa pb pc pd)/12-1955880000-3179)) (st.bk 0 rfl) rfl)) rfl fun a hF=>oV hF (aq hF.q hF.o ab (bN (by omega) (by omega))) rfl fun a hF=>oT hF 0 (cJ (c:=true) (aL (by omega))) rfl rfl fun a hF=>oM hF 0 rfl rfl fun a hF=>?_
 refine og hF (av (hF.at 17 rfl) (li (p:=0) rfl)) 0 rfl rfl rfl fun a hF=>og hF (au hF.o (bQ (v:= .int .i64 ((smV L0+1)/12-1955883044)) (st.bk 1 rfl) rfl)) 1 rfl rfl rfl fun a hF=>og hF (av (hF.at 10 rfl) (wn (p:=0) rfl)) 2 rfl rfl rfl fun a hF=>og hF (au hF.o (bQ (v:= .int .i64 (kaV (cW er ny pa pb pc pd)/12-1955880000-3179)) (st.bk 0 rfl) rfl)) 3 rfl rfl rfl fun a hF=>og hF (aq hF.q hF.o ab (bN (by omega) (by omega))) 4 rfl rfl rfl fun a hF=>og hF (aq hF.o ar ab (aU (cj (c:=true) (aL (by omega))) (by simp))) 5 rfl rfl rfl fun a hF=>oV hF (aH (hF.at 6 rfl) hF.o) rfl fun a hF=>?_
 refine oE hF 0 rfl rfl fun a hF=>nr ?_
 have bel:=st.bel
 refine rt Tryz.results8 hF 0 rfl ?_
 exact⟨rfl,bel⟩
theorem EQ (z30:Int) (w:World):(Instr.build 26 #[(3,.int .i64 z30)]).run Tryz.prog w= .ok (.agg #[.int .i64 0,.int .i64 0,.int .i64 0,.int .i64 z30]) w:=by
 have hz:=cI vw w
 have h_i64:∀w,(sizeOf 2).run Tryz.prog w= .ok 1 w:=fun w=>bn cM w
 simp only [Instr.build,Sem.run_bind,hz,Result.andThen_ok,run_underlying Tryz.underlying26,List.mapM_toArray,List.mapM_cons,List.mapM_nil,Sem.run_map,h_i64,Sem.run_pure]
 rfl
theorem gK (w:World) (hT:bG w):
 Calls Tryz.prog 9 #[] w (aG w (.bool true)):=by
 have hka:kaV (((738000-1:Int)):Rat)/12=1955885122:=by decide+kernel
 have st:=St.start w
 refine go0 (nt:=14) Tryz.func9 rfl rfl fun a hF=>?_
 refine wq ?_
 refine oC hF rfl fun a hF=>nq ?_
 refine oV hF (bh (fx ar) (EQ _ _)) rfl fun a hF=>?_
 refine cX st hF (rgc k12 (aI ar hF.o)) (ua 0 0 0 0 1 _ (by decide+kernel)) rfl fun w1 a st hF=>?_
 refine oM hF 0 rfl rfl fun a hF=>oV hF (aR (v:= .agg #[.int .i64 0,.int .i64 0,.bool false,.int .i64 0,.bool false]) hF.o rfl) rfl fun a hF=>oV hF (aR (v:= .int .i64 (plE 0 0 0 1)) hF.p rfl) rfl fun a hF=>?_
 refine S.new st hF 1 rfl cL rfl rfl rfl rfl rfl fun g1 w2 a st hF=>?_
 refine oA hF 1 rfl rfl fun a hF=>nq ?_
 refine oM hF 0 rfl rfl fun a hF=>oT hF 0 (a6 (c:=true) (aL (by decide+kernel))) rfl rfl fun a hF=>oM hF 0 rfl rfl fun a hF=>?_
 refine S.callxg st hF (aA rfl rfl hF.o rfl) (rgc k32 (aI ar ar)) (rA 738000 5 _ (hT.below st.bel) (by omega) (by omega)) rfl rfl rfl fun w3 a st hF=>?_
 refine og hF (aq hF.o ar ab (aU (a6 (c:=true) (aL (by unfold j4;rw[if_neg (by decide)];omega))) (by simp))) 1 rfl rfl rfl fun a hF=>oV hF (aH hF.q hF.o) rfl fun a hF=>oE hF 0 rfl rfl fun a hF=>nr ?_
 have bel:=st.bel
 refine rt Tryz.results9 hF 0 rfl ?_
 exact⟨rfl,bel⟩
theorem AA (y m:Int) (l:Bool) (d:Int) (g:Bool) (w:World):
 Calls Tryz.prog 14 #[.agg #[.int .i64 y,.int .i64 m,.bool l,.int .i64 d,.bool g]] w (aG w (.agg #[.int .i64 y,.int .i64 m,.bool l,.int .i64 d,.bool g])):=by
 have st:=St.start w
 refine go1 (nt:=14) Tryz.func14 rfl rfl rfl fun a hF=>?_
 refine wq ?_
 refine bx st hF 0 rfl rfl fun g1 w1 a st hF=>?_
 refine S.alloc st hF mn rfl rfl fun g2 w2 a st hF=>?_
 refine nq ?_
 refine oV hF (av hF.p (li (p:=0) rfl)) rfl fun a hF=>oV hF (au hF.o (bQ (v:= .int .i64 y) (st.bk 1 rfl) rfl)) rfl fun a hF=>oV hF (av (hF.at 3 rfl) (fJ (p:=1) rfl)) rfl fun a hF=>oV hF (au hF.o (bA (v:= .int .i64 m) (st.bk 1 rfl) rfl)) rfl fun a hF=>oV hF (av (hF.at 5 rfl) (hZ (p:=2) rfl)) rfl fun a hF=>oV hF (au hF.o (cz (v:= .bool l) (st.bk 1 rfl) rfl)) rfl fun a hF=>oV hF (av (hF.at 7 rfl) (cG (p:=3) rfl)) rfl fun a hF=>?_
 refine oV hF (au hF.o (bA (v:= .int .i64 d) (st.bk 1 rfl) rfl)) rfl fun a hF=>oV hF (av (hF.at 9 rfl) (dH (p:=4) rfl)) rfl fun a hF=>oV hF (au hF.o (cz (v:= .bool g) (st.bk 1 rfl) rfl)) rfl fun a hF=>oV hF (bh (uu (hF.at 8 rfl) (hF.at 6 rfl) (hF.at 4 rfl) hF.q hF.o) (pf _ _ _ _ _ _)) rfl fun a hF=>?_
 refine S.stoI st hF 0 rfl (hF.at 11 rfl) hF.o mn rfl rfl rfl fun w3 a st hF=>?_
 refine nr ?_
 refine rs Tryz.results14 st hF 11 0 mn rfl rfl rfl ?_
 have bel:=st.bel
 exact⟨rfl,bel⟩
theorem amantaDays_walk (n wa wb wc wd:Int) (w:World) (hT:bG w):
 Calls Tryz.prog 3 #[.int .i64 n,.agg #[.int .i64 wa,.int .i64 wb,.int .i64 wc,.int .i64 wd]] w (aG w (.bool true)):=by
 obtain⟨pa,hpa⟩:∃z:Int,gA 60 120 wa wb=z:=⟨_,rfl⟩
 obtain⟨pb,hpb⟩:∃z:Int,gB wb=z:=⟨_,rfl⟩
 obtain⟨pc,hpc⟩:∃z:Int,gA 180 360 wc wd=z:=⟨_,rfl⟩
 obtain⟨pd,hpd⟩:∃z:Int,gB wd=z:=⟨_,rfl⟩
 have hok:cf pa pb pc pd:=by rw[←hpa,←hpb,←hpc,←hpd];exact jz wa wb wc wd
 have hp1:=hok.b0
 have hp2:=hok.b1
 have hp3:=hok.a0
 have hp4:=hok.a1
 have hp5:=hok.d0
 have hp6:=hok.d1
 have hp7:=hok.c0
 have hp8:=hok.c1
 obtain⟨ny,hny⟩:∃z:Int,inD n=z:=⟨_,rfl⟩
 have hin0:=oH n
 rw[hny] at hin0
 obtain⟨X0,hX0⟩:∃z:Int,amX ny pa pb pc pd=z:=⟨_,rfl⟩
 obtain⟨L0,hL0⟩:∃z:Int,amL ny pa pb pc pd=z:=⟨_,rfl⟩
 obtain⟨X9,hX9⟩:∃z:Int,amX (ny-1) pa pb pc pd=z:=⟨_,rfl⟩
 obtain⟨L9,hL9⟩:∃z:Int,amL (ny-1) pa pb pc pd=z:=⟨_,rfl⟩
 have st:=St.start w
 refine go2 (nt:=50) Tryz.func3 rfl rfl rfl fun a hF=>?_
 refine wq ?_
 refine bx st hF 1 rfl rfl fun g3 w1 a st hF=>?_
 refine oC hF rfl fun a hF=>ns ?_
 refine wq ?_
 refine cX st hF (rgc k9 ir) (gK _ (hT.below st.bel)) rfl fun w2 a st hF=>?_
 refine oV hF (cF hF.o (bT _ false rfl)) rfl fun a hF=>?_
 refine E.nil ?_
 refine wp_cond_false hF.o ?_
 refine wp_skip ?_
 refine E.norm ?_
 refine wp_seq ?_
 refine E.rga 6 aF hF [12,13,14,15,6,5] [_,_,_,_,kb w2 [.int .i64 0,.int .i64 0,.int .i64 0,.int .i64 0],.ex (.int .i64 ny)] [4] ⟨fun _ _ ⟨g,e,_,o⟩=>⟨g,e,o.lt⟩,trivial⟩ (by decide+kernel) rfl rfl rfl ⟨rm 4 rfl,ck st k10 rfl fun _ s=>a9 (kM _ hny),rb st uV 3 0 rfl,ck st k11 rfl fun _ s=>a9 (qD _ hpa hpb hpc hpd),rai aZ rfl,(by intro a' w' hF' hb hd;have e13:=tE hd 0 rfl;exact dv0 (a8 e13) rfl rfl rfl),trivial⟩ ?_
 intro a w3 hF bb hall hne
 have s0:=st
 replace st:=st.to bb
 replace hF:=rE hall hF 3 rfl rfl
 obtain⟨_,e6,g6,rfl,ge6,o6⟩:=sS hall 4 6 rfl rfl
 replace st:=st.push o6 (Nat.le_trans s0.bel.size ge6) (s0.ne ge6)
 clear o6
 replace hF:=hF.add e6
 replace hF:=rE hall hF 5 rfl rfl
 clear hall bb hne s0
 refine S.stoI st hF 0 rfl hF.p hF.q aZ rfl rfl rfl fun w4 a st hF=>?_
 refine nq ?_
 refine oM hF 0 rfl rfl fun a hF=>oL hF st 2 0 aZ rfl rfl rfl rfl fun a hF=>?_
 refine cX st hF (rgc k12 (aI hF.p hF.o)) (wF ny pa pb pc pd L0 X0 X9 _ (hT.below st.bel) (by first|assumption|constructor<;>omega) (by omega) (by omega) hL0 hX0 hX9) rfl fun w5 a st hF=>?_
 refine oM hF 0 rfl rfl fun a hF=>oV hF (aR (v:= .agg #[.int .i64 ((smV L0+1)/12-1955883044),.int .i64 ((smV L0+1)%12+1),.bool (decide (smV (aQ L0)=smV L0)),.int .i64 (X0%30+1),.bool (decide (X9=X0))]) hF.o rfl) rfl fun a hF=>oV hF (aR (v:= .int .i64 0) hF.p rfl) rfl fun a hF=>?_
 refine S.new st hF 1 rfl cL rfl rfl rfl rfl rfl fun g7 w6 a st hF=>?_
 refine oA hF 1 rfl rfl fun a hF=>nq ?_
 refine oL hF st 9 1 aZ rfl rfl rfl rfl fun a hF=>?_
 refine ca st hF (rgc k13 (aD hF.o)) (Aa pa pb pc pd _ (by omega) (by omega) (by omega) (by omega) (by omega) (by omega) (by omega) (by omega)) (fun _ _ h=>h) RPl.cl rfl fun vv8 w7 a st hF=>?_
 obtain⟨b11x,ad11x,n11x,c11x,ae11x,m11x,d11x,b11y,ad11y,n11y,c11y,ae11y,m11y,d11y,rfl,hp11x,hp11y⟩:=RPl.shape (st.f 0 rfl)
 replace st:=(st.add hp11x (Rr.cl _)).add hp11y (Rr.cl _)
 clear hp11x hp11y
 refine S.new st hF 0 rfl gC rfl rfl rfl rfl rfl fun g9 w12 a st hF=>?_
 refine ns ?_
 refine E.rg 24 aF hF [24,25,26,27,28,29,30,31,32,33,34,35,36,37,38,39,40,41,42,43,44,45,46,47] [_,.ex (.bool true),.ex (.bool true),.ex (.agg #[.int .i64 ((smV L0+1)/12-1955883044),.int .i64 ((smV L0+1)%12+1),.bool (decide (smV (aQ L0)=smV L0)),.int .i64 (X0%30+1),.bool (decide (X9=X0))]),.ex (.agg #[.int .i64 ((smV L0+1)/12-1955883044),.int .i64 ((smV L0+1)%12+1),.bool (decide (smV (aQ L0)=smV L0)),.int .i64 (X0%30+1),.bool (decide (X9=X0))]),.ex (.int .i64 ny),.ex (.agg #[.bool b11x,.slice ad11x n11x c11x,.slice ae11x m11x d11x,.bool b11y,.slice ad11y n11y c11y,.slice ae11y m11y d11y]),.ex (.agg #[.int .i64 ((smV L0+1)/12-1955883044),.int .i64 ((smV L0+1)%12+1),.bool (decide (smV (aQ L0)=smV L0)),.int .i64 (X0%30+1),.bool (decide (X9=X0))]),.ex (.bool true),.ex (.bool true),.ex (.bool true),.ex (.int .i64 ny),.ex (.agg #[.int .i64 pa,.int .i64 pb,.int .i64 pc,.int .i64 pd]),.ex (.int .i64 (X0%30+1)),.ex (.int .i64 ny),.ex (.agg #[.bool b11x,.slice ad11x n11x c11x,.slice ae11x m11x d11x,.bool b11y,.slice ad11y n11y c11y,.slice ae11y m11y d11y]),.ex (.int .i64 (X0%30+1)),.ex (.bool true),.ex (.bool true),.ex (.bool true),.ex (.agg #[.int .i64 ((smV L0+1)/12-1955883044),.int .i64 ((smV L0+1)%12+1),.bool (decide (smV (aQ L0)=smV L0)),.int .i64 (X0%30+1),.bool (decide (X9=X0))]),.ex (.int .i64 ny),.ex (.agg #[.int .i64 pa,.int .i64 pb,.int .i64 pc,.int .i64 pd]),.ex (.agg #[.int .i64 ((smV L0+1)/12-1955883044),.int .i64 ((smV L0+1)%12+1),.bool (decide (smV (aQ L0)=smV L0)),.int .i64 (X0%30+1),.bool (decide (X9=X0))])] (by decide+kernel) rfl rfl rfl ⟨rm 3 rfl,(by intro a' w' hF' hb hd;have e24:=tE hd 0 rfl;exact dv0 (aq e24 ar ab (aU (a6 (c:=true) (by decide)) (by simp))) rfl rfl rfl),(by intro a' w' hF' hb hd;have e25:=tE hd 0 rfl;exact dv0 (aN e25) rfl rfl rfl),(by intro a' w' hF' hb hd;have e26:=tE hd 0 rfl;exact dv1 (aA rfl rfl e26 rfl) (au (hF'.at 4 rfl) (bF cL ((st.bk 1 rfl).below hb) rfl)) rfl rfl),(by intro a' w' hF' hb hd;have e26:=tE hd 1 rfl;have e27:=tE hd 0 rfl;exact nC (aA rfl rfl e26 rfl) (rk NW (aD e27)) (AA ((smV L0+1)/12-1955883044) ((smV L0+1)%12+1) (decide (smV (aQ L0)=smV L0)) (X0%30+1) (decide (X9=X0)) _) (fun _=>rfl) rfl),(by intro a' w' hF' hb hd;have e26:=tE hd 0 rfl;exact dv1 (aA rfl rfl e26 rfl) (aN (hF'.at 11 rfl)) rfl rfl),(by intro a' w' hF' hb hd;have e26:=tE hd 0 rfl;exact dv1 (aA rfl rfl e26 rfl) (au (hF'.at 0 rfl) (bF gC ((st.bk 0 rfl).below hb) rfl)) rfl rfl),(by intro a' w' hF' hb hd;have e26:=tE hd 3 rfl;have e29:=tE hd 0 rfl;have e30:=tE hd 1 rfl;exact nC (aA rfl rfl e26 rfl) (rk Ol (aI e29 e30)) (De ny pa pb pc pd L0 X0 X9 _ _ ((st.f 2 rfl).below hb) (by first|assumption|constructor<;>omega) (by omega) (by omega) hL0 hX0 hX9) (fun _=>rfl) rfl),(by intro a' w' hF' hb hd;have e26:=tE hd 2 rfl;have e28:=tE hd 0 rfl;have e31:=tE hd 1 rfl;exact dv1 (aA rfl rfl e26 rfl) (aq e28 e31 JS (JR (aL ⟨rfl,rfl,rfl,rfl,rfl⟩))) rfl rfl),(by intro a' w' hF' hb hd;have e26:=tE hd 0 rfl;have e32:=tE hd 1 rfl;exact dv0 (aH e26 e32) rfl rfl rfl),(by intro a' w' hF' hb hd;have e33:=tE hd 0 rfl;exact dv0 (aN e33) rfl rfl rfl),(by intro a' w' hF' hb hd;have e34:=tE hd 0 rfl;exact dv1 (aA rfl rfl e34 rfl) (aN (hF'.at 11 rfl)) rfl rfl),(by intro a' w' hF' hb hd;have e34:=tE hd 0 rfl;exact dv1 (aA rfl rfl e34 rfl) (au (hF'.at 12 rfl) (bF aZ ((st.bk 2 rfl).below hb) rfl)) rfl rfl),(by intro a' w' hF' hb hd;have e34:=tE hd 2 rfl;have e35:=tE hd 0 rfl;have e36:=tE hd 1 rfl;exact nC (aA rfl rfl e34 rfl) (rk Kp (aI e35 e36)) (iA ny pa pb pc pd X0 _ (hT.below (aC st.bel hb)) (by first|assumption|constructor<;>omega) (by omega) (by omega) hX0) (fun _=>rfl) rfl),(by intro a' w' hF' hb hd;have e34:=tE hd 0 rfl;exact dv1 (aA rfl rfl e34 rfl) (aN (hF'.at 11 rfl)) rfl rfl),(by intro a' w' hF' hb hd;have e34:=tE hd 0 rfl;exact dv1 (aA rfl rfl e34 rfl) (au (hF'.at 0 rfl) (bF gC ((st.bk 0 rfl).below hb) rfl)) rfl rfl),(by intro a' w' hF' hb hd;have e34:=tE hd 3 rfl;have e38:=tE hd 0 rfl;have e39:=tE hd 1 rfl;exact nC (aA rfl rfl e34 rfl) (rk Of (aI e38 e39)) (k4 ny pa pb pc pd X0 _ _ ((st.f 2 rfl).below hb) (by first|assumption|constructor<;>omega) (by omega) (by omega) hX0) (fun _=>rfl) rfl),(by intro a' w' hF' hb hd;have e34:=tE hd 2 rfl;have e37:=tE hd 0 rfl;have e40:=tE hd 1 rfl;exact dv1 (aA rfl rfl e34 rfl) (aq e37 e40 ab (aU (a6 (c:=true) (by simp)) (by simp))) rfl rfl),(by intro a' w' hF' hb hd;have e34:=tE hd 0 rfl;have e41:=tE hd 1 rfl;exact dv0 (aH e34 e41) rfl rfl rfl),(by intro a' w' hF' hb hd;have e42:=tE hd 0 rfl;exact dv0 (aN e42) rfl rfl rfl),(by intro a' w' hF' hb hd;have e43:=tE hd 0 rfl;exact dv1 (aA rfl rfl e43 rfl) (au (hF'.at 4 rfl) (bF cL ((st.bk 1 rfl).below hb) rfl)) rfl rfl),(by intro a' w' hF' hb hd;have e43:=tE hd 0 rfl;exact dv1 (aA rfl rfl e43 rfl) (aN (hF'.at 11 rfl)) rfl rfl),(by intro a' w' hF' hb hd;have e43:=tE hd 0 rfl;exact dv1 (aA rfl rfl e43 rfl) (au (hF'.at 12 rfl) (bF aZ ((st.bk 2 rfl).below hb) rfl)) rfl rfl),(by intro a' w' hF' hb hd;have e43:=tE hd 2 rfl;have e45:=tE hd 0 rfl;have e46:=tE hd 1 rfl;exact nC (aA rfl rfl e43 rfl) (rk NV (aI e45 e46)) (gL ny pa pb pc pd L0 X0 X9 _ (hT.below (aC st.bel hb)) (by first|assumption|constructor<;>omega) (by omega) (by omega) hL0 hX0 hX9) (fun _=>rfl) rfl),trivial⟩ ?_
 intro a w13 hF bb hall
 replace st:=st.to bb
 replace hF:=rE hall hF 19 rfl rfl
 replace hF:=rE hall hF 20 rfl rfl
 replace hF:=rE hall hF 23 rfl rfl
 clear hall bb
 refine og hF (aq hF.p hF.o sr (rq (aL ⟨rfl,rfl,rfl,rfl,rfl⟩))) 2 rfl rfl rfl fun a hF=>oV hF (aH (hF.at 3 rfl) hF.o) rfl fun a hF=>oE hF 0 rfl rfl fun a hF=>nr ?_
 have bel:=st.bel
 refine rt Tryz.results3 hF 0 rfl ?_
 exact⟨rfl,bel⟩
theorem amantaMonths_walk (n wa wb wc wd:Int) (w:World) (hT:bG w):
 Calls Tryz.prog 5 #[.int .i64 n,.agg #[.int .i64 wa,.int .i64 wb,.int .i64 wc,.int .i64 wd]] w (aG w (.bool true)):=by
 obtain⟨pa,hpa⟩:∃z:Int,gA 60 120 wa wb=z:=⟨_,rfl⟩
 obtain⟨pb,hpb⟩:∃z:Int,gB wb=z:=⟨_,rfl⟩
 obtain⟨pc,hpc⟩:∃z:Int,gA 180 360 wc wd=z:=⟨_,rfl⟩
 obtain⟨pd,hpd⟩:∃z:Int,gB wd=z:=⟨_,rfl⟩
 have hok:cf pa pb pc pd:=by rw[←hpa,←hpb,←hpc,←hpd];exact jz wa wb wc wd
 have hp1:=hok.b0
 have hp2:=hok.b1
 have hp3:=hok.a0
 have hp4:=hok.a1
 have hp5:=hok.d0
 have hp6:=hok.d1
 have hp7:=hok.c0
 have hp8:=hok.c1
 obtain⟨ny,hny⟩:∃z:Int,inD n=z:=⟨_,rfl⟩
 have hin0:=oH n
 rw[hny] at hin0
 obtain⟨X0,hX0⟩:∃z:Int,amX ny pa pb pc pd=z:=⟨_,rfl⟩
 obtain⟨L0,hL0⟩:∃z:Int,amL ny pa pb pc pd=z:=⟨_,rfl⟩
 obtain⟨X9,hX9⟩:∃z:Int,amX (ny-1) pa pb pc pd=z:=⟨_,rfl⟩
 obtain⟨L9,hL9⟩:∃z:Int,amL (ny-1) pa pb pc pd=z:=⟨_,rfl⟩
 have hpr:=mK hok (ny-1)
 rw[show ny-1+1=ny by omega,hX9,hX0] at hpr
 have hsm0:=pM (jp ny pa pb pc pd)
 rw[hL0] at hsm0
 have hnr:=H5 hok ny
 rw[hL0] at hnr
 have hnx:=(cT (jp ny pa pb pc pd)).2.1
 rw[hL0] at hnx
 have st:=St.start w
 refine go2 (nt:=62) Tryz.func5 rfl rfl rfl fun a hF=>?_
 refine wq ?_
 refine bx st hF 1 rfl rfl fun g3 w1 a st hF=>?_
 refine oC hF rfl fun a hF=>ns ?_
 refine wq ?_
 refine cX st hF (rgc k9 ir) (gK _ (hT.below st.bel)) rfl fun w2 a st hF=>?_
 refine oV hF (cF hF.o (bT _ false rfl)) rfl fun a hF=>?_
 refine E.nil ?_
 refine wp_cond_false hF.o ?_
 refine wp_skip ?_
 refine E.norm ?_
 refine wp_seq ?_
 refine E.rga 6 aF hF [12,13,14,15,6,5] [_,_,_,_,kb w2 [.int .i64 0,.int .i64 0,.int .i64 0,.int .i64 0],.ex (.int .i64 ny)] [4] ⟨fun _ _ ⟨g,e,_,o⟩=>⟨g,e,o.lt⟩,trivial⟩ (by decide+kernel) rfl rfl rfl ⟨rm 4 rfl,ck st k10 rfl fun _ s=>a9 (kM _ hny),rb st uV 3 0 rfl,ck st k11 rfl fun _ s=>a9 (qD _ hpa hpb hpc hpd),rai aZ rfl,(by intro a' w' hF' hb hd;have e13:=tE hd 0 rfl;exact dv0 (a8 e13) rfl rfl rfl),trivial⟩ ?_
 intro a w3 hF bb hall hne
 have s0:=st
 replace st:=st.to bb
 replace hF:=rE hall hF 3 rfl rfl
 obtain⟨_,e6,g6,rfl,ge6,o6⟩:=sS hall 4 6 rfl rfl
 replace st:=st.push o6 (Nat.le_trans s0.bel.size ge6) (s0.ne ge6)
 clear o6
 replace hF:=hF.add e6
 replace hF:=rE hall hF 5 rfl rfl
 clear hall bb hne s0
 refine S.stoI st hF 0 rfl hF.p hF.q aZ rfl rfl rfl fun w4 a st hF=>?_
 refine nq ?_
 refine oM hF 0 rfl rfl fun a hF=>oL hF st 2 0 aZ rfl rfl rfl rfl fun a hF=>?_
 refine cX st hF (rgc k18 (aI hF.p hF.o)) (gL ny pa pb pc pd L0 X0 X9 _ (hT.below st.bel) (by first|assumption|constructor<;>omega) (by omega) (by omega) hL0 hX0 hX9) rfl fun w5 a st hF=>?_
 refine S.new st hF 0 rfl cL rfl rfl rfl rfl rfl fun g7 w6 a st hF=>?_
 refine nq ?_
 refine oM hF 4 rfl rfl fun a hF=>oL hF st 6 1 aZ rfl rfl rfl rfl fun a hF=>?_
 refine S.ck st hF (rgc k19 (aI hF.p hF.o)) (aB (gD ny pa pb pc pd _ (hT.below st.bel) (by first|assumption|constructor<;>omega) (by omega) (by omega)) (gj (by first|assumption|constructor<;>omega) (by omega) (by omega))) Rl.cl rfl fun vv8 w7 a st hF=>?_
 obtain⟨r10,rfl⟩:=Rq.fo (st.f 0 rfl).1
 refine S.new st hF 0 rfl aa rfl rfl rfl rfl rfl fun g8 w11 a st hF=>?_
 refine nq ?_
 refine oL hF st 0 0 aa rfl rfl rfl rfl fun a hF=>?_
 refine cX st hF (rgc k20 (aD hF.o)) (y4 _ (hT.below st.bel) (st.f 0 rfl).1 (st.f 0 rfl).2 (by omega) (by have:=pt hok ny;omega) (by have:=pt hok ny;omega) hL0) rfl fun w12 a st hF=>?_
 refine S.new st hF 0 rfl gc rfl rfl rfl rfl rfl fun g9 w13 a st hF=>?_
 refine ns ?_
 refine E.rg 36 aF hF [24,25,26,27,28,29,30,31,32,33,34,35,36,37,38,39,40,41,42,43,44,45,46,47,48,49,50,51,52,53,54,55,56,57,58,59] [_,_,_,_,.ex (.bool true),.ex (.bool true),.ex (.pointer (some ⟨g7,2,none⟩)),.ex (.bool (decide (smV (aQ L0)=smV L0))),.ex (.agg #[.int .i64 L0,.int .i64 (aQ L0),.int .i64 (smV L0%12),.int .i64 (smV (aQ L0)%12)]),.ex (.bool (decide ((smV L0%12)=(smV (aQ L0)%12)))),.ex (.bool true),.ex (.bool true),.ex (.bool true),.ex (.pointer (some ⟨g7,4,none⟩)),.ex (.bool (decide (X9=X0))),.ex (.int .i64 ny),.ex (.int .i64 (ny-1)),.ex (.agg #[.int .i64 pa,.int .i64 pb,.int .i64 pc,.int .i64 pd]),.ex (.int .i64 (X9%30+1)),.ex (.pointer (some ⟨g7,3,none⟩)),.ex (.int .i64 (X0%30+1)),.ex (.bool (decide (X9%30+1=X0%30+1))),.ex (.bool true),.ex (.bool true),.ex (.bool true),.ex (.int .i64 ny),.ex (.int .i64 (ny+2)),.ex (.pointer (some ⟨g9,0,none⟩)),.ex (.int .i64 L0),.ex (.bool true),.ex (.bool true),.ex (.bool true),.ex (.int .i64 ny),.ex (.pointer (some ⟨g9,1,none⟩)),.ex (.int .i64 (aQ L0)),.ex (.int .i64 ((aQ L0)+1))] (by decide+kernel) rfl rfl rfl ⟨rfd 7 (fun _=>fJ (p:=1) rfl) rfl,rld rfl fun _ hb=>(bA (v:= .int .i64 ((smV L0+1)%12+1)) ((st.bk 2 rfl).below hb) rfl),rb st gc 0 0 rfl,ck st k21 rfl fun _ s=>a9 (nQ L0 (aQ L0) (smV L0%12) (smV (aQ L0)%12) _ (by omega) (by omega)),(by intro a' w' hF' hb hd;have e25:=tE hd 0 rfl;have e27:=tE hd 1 rfl;exact dv0 (aq e25 e27 ab (aU (a6 (c:=true) (aL (by omega))) (by simp))) rfl rfl rfl),(by intro a' w' hF' hb hd;have e28:=tE hd 0 rfl;exact dv0 (aN e28) rfl rfl rfl),(by intro a' w' hF' hb hd;have e29:=tE hd 0 rfl;exact dv1 (aA rfl rfl e29 rfl) (av (hF'.at 7 rfl) (hZ (p:=2) rfl)) rfl rfl),(by intro a' w' hF' hb hd;have e29:=tE hd 1 rfl;have e30:=tE hd 0 rfl;exact dv1 (aA rfl rfl e29 rfl) (au e30 (cz (v:= .bool (decide (smV (aQ L0)=smV L0))) ((st.bk 2 rfl).below hb) rfl)) rfl rfl),(by intro a' w' hF' hb hd;have e29:=tE hd 0 rfl;exact dv1 (aA rfl rfl e29 rfl) (au (hF'.at 0 rfl) (bF gc ((st.bk 0 rfl).below hb) rfl)) rfl rfl),(by intro a' w' hF' hb hd;have e29:=tE hd 1 rfl;have e32:=tE hd 0 rfl;exact nC (aA rfl rfl e29 rfl) (rk NK (aD e32)) (rJ L0 (aQ L0) (smV L0%12) (smV (aQ L0)%12) _) (fun _=>rfl) rfl),(by intro a' w' hF' hb hd;have e29:=tE hd 2 rfl;have e31:=tE hd 0 rfl;have e33:=tE hd 1 rfl;exact dv1 (aA rfl rfl e29 rfl) (aq e31 e33 ce (dL (d:=true) (by rw[show decide (smV (aQ L0)=smV L0)=decide ((smV L0%12)=(smV (aQ L0)%12)) from decide_eq_decide.2 (by omega)];exact beq_self_eq_true _))) rfl rfl),(by intro a' w' hF' hb hd;have e29:=tE hd 0 rfl;have e34:=tE hd 1 rfl;exact dv0 (aH e29 e34) rfl rfl rfl),(by intro a' w' hF' hb hd;have e35:=tE hd 0 rfl;exact dv0 (aN e35) rfl rfl rfl),(by intro a' w' hF' hb hd;have e36:=tE hd 0 rfl;exact dv1 (aA rfl rfl e36 rfl) (av (hF'.at 7 rfl) (dH (p:=4) rfl)) rfl rfl),(by intro a' w' hF' hb hd;have e36:=tE hd 1 rfl;have e37:=tE hd 0 rfl;exact dv1 (aA rfl rfl e36 rfl) (au e37 (cz (v:= .bool (decide (X9=X0))) ((st.bk 2 rfl).below hb) rfl)) rfl rfl),(by intro a' w' hF' hb hd;have e36:=tE hd 0 rfl;exact dv1 (aA rfl rfl e36 rfl) (aN (hF'.at 11 rfl)) rfl rfl),(by intro a' w' hF' hb hd;have e36:=tE hd 1 rfl;have e39:=tE hd 0 rfl;exact dv1 (aA rfl rfl e36 rfl) (aq e39 ar ab (bN (by omega) (by omega))) rfl rfl),(by intro a' w' hF' hb hd;have e36:=tE hd 0 rfl;exact dv1 (aA rfl rfl e36 rfl) (au (hF'.at 12 rfl) (bF aZ ((st.bk 3 rfl).below hb) rfl)) rfl rfl),(by intro a' w' hF' hb hd;have e36:=tE hd 2 rfl;have e40:=tE hd 0 rfl;have e41:=tE hd 1 rfl;exact nC (aA rfl rfl e36 rfl) (rk Kp (aI e40 e41)) (iA (ny-1) pa pb pc pd X9 _ (hT.below (aC st.bel hb)) (by first|assumption|constructor<;>omega) (by omega) (by omega) hX9) (fun _=>rfl) rfl),(by intro a' w' hF' hb hd;have e36:=tE hd 0 rfl;exact dv1 (aA rfl rfl e36 rfl) (av (hF'.at 7 rfl) (cG (p:=3) rfl)) rfl rfl),(by intro a' w' hF' hb hd;have e36:=tE hd 1 rfl;have e43:=tE hd 0 rfl;exact dv1 (aA rfl rfl e36 rfl) (au e43 (bA (v:= .int .i64 (X0%30+1)) ((st.bk 2 rfl).below hb) rfl)) rfl rfl),(by intro a' w' hF' hb hd;have e36:=tE hd 2 rfl;have e42:=tE hd 0 rfl;have e44:=tE hd 1 rfl;exact dv1 (aA rfl rfl e36 rfl) (aq e42 e44 ab (aU (a6 (c:=decide (X9%30+1=X0%30+1)) rfl) (by simp))) rfl rfl),(by intro a' w' hF' hb hd;have e36:=tE hd 2 rfl;have e38:=tE hd 0 rfl;have e45:=tE hd 1 rfl;exact dv1 (aA rfl rfl e36 rfl) (aq e38 e45 ce (dL (d:=true) (by rw[show decide (X9=X0)=decide (X9%30+1=X0%30+1) from decide_eq_decide.2 (by omega)];exact beq_self_eq_true _))) rfl rfl),(by intro a' w' hF' hb hd;have e36:=tE hd 0 rfl;have e46:=tE hd 1 rfl;exact dv0 (aH e36 e46) rfl rfl rfl),(by intro a' w' hF' hb hd;have e47:=tE hd 0 rfl;exact dv0 (aN e47) rfl rfl rfl),(by intro a' w' hF' hb hd;have e48:=tE hd 0 rfl;exact dv1 (aA rfl rfl e48 rfl) (aN (hF'.at 11 rfl)) rfl rfl),(by intro a' w' hF' hb hd;have e48:=tE hd 1 rfl;have e49:=tE hd 0 rfl;exact dv1 (aA rfl rfl e48 rfl) (aq e49 ar ab (bj (by omega) (by omega))) rfl rfl),(by intro a' w' hF' hb hd;have e48:=tE hd 0 rfl;exact dv1 (aA rfl rfl e48 rfl) (av (hF'.at 0 rfl) (Ev (p:=0) rfl)) rfl rfl),(by intro a' w' hF' hb hd;have e48:=tE hd 1 rfl;have e51:=tE hd 0 rfl;exact dv1 (aA rfl rfl e48 rfl) (au e51 (bQ (v:= .int .i64 L0) ((st.bk 0 rfl).below hb) rfl)) rfl rfl),(by intro a' w' hF' hb hd;have e48:=tE hd 2 rfl;have e50:=tE hd 0 rfl;have e52:=tE hd 1 rfl;exact dv1 (aA rfl rfl e48 rfl) (aq e50 e52 ab (aU (cJ (c:=true) (aL (by omega))) (by simp))) rfl rfl),(by intro a' w' hF' hb hd;have e48:=tE hd 0 rfl;have e53:=tE hd 1 rfl;exact dv0 (aH e48 e53) rfl rfl rfl),(by intro a' w' hF' hb hd;have e54:=tE hd 0 rfl;exact dv0 (aN e54) rfl rfl rfl),(by intro a' w' hF' hb hd;have e55:=tE hd 0 rfl;exact dv1 (aA rfl rfl e55 rfl) (aN (hF'.at 11 rfl)) rfl rfl),(by intro a' w' hF' hb hd;have e55:=tE hd 0 rfl;exact dv1 (aA rfl rfl e55 rfl) (av (hF'.at 0 rfl) (Fp (p:=1) rfl)) rfl rfl),(by intro a' w' hF' hb hd;have e55:=tE hd 1 rfl;have e57:=tE hd 0 rfl;exact dv1 (aA rfl rfl e55 rfl) (au e57 (bQ (v:= .int .i64 (aQ L0)) ((st.bk 0 rfl).below hb) rfl)) rfl rfl),(by intro a' w' hF' hb hd;have e55:=tE hd 1 rfl;have e58:=tE hd 0 rfl;exact dv1 (aA rfl rfl e55 rfl) (aq e58 ar ab (bj (by omega) (by omega))) rfl rfl),trivial⟩ ?_
 intro a w14 hF bb hall
 replace st:=st.to bb
 replace hF:=rE hall hF 31 rfl rfl
 replace hF:=rE hall hF 32 rfl rfl
 replace hF:=rE hall hF 35 rfl rfl
 clear hall bb
 refine og hF (aq hF.p hF.o ab (aU (cj (c:=true) (aL (by omega))) (by simp))) 2 rfl rfl rfl fun a hF=>oV hF (aH (hF.at 3 rfl) hF.o) rfl fun a hF=>oE hF 0 rfl rfl fun a hF=>nr ?_
 have bel:=st.bel
 refine rt Tryz.results5 hF 0 rfl ?_
 exact⟨rfl,bel⟩
theorem kt {P:Program} {w:World} {t:TypeId} {y0 y:Int} (h:(if 0≤y0 then y0%1099511627776 else -(-y0%1099511627776))=y):(binOp .rem t (.int .i64 y0) (.int .i64 1099511627776)).run P w= .ok (.int .i64 y) w:=by
 subst h
 exact gT (by decide)
theorem amantaBad_walk (n xa xb xc xd:Int) (w:World) (hT:bG w):
 Calls Tryz.prog 6 #[.int .i64 n,.agg #[.int .i64 xa,.int .i64 xb,.int .i64 xc,.int .i64 xd]] w (aG w (.bool true)):=by
 obtain⟨pa,ha⟩:∃z:Int,(if 0≤xa then xa%1099511627776 else -(-xa%1099511627776))=z:=⟨_,rfl⟩
 obtain⟨pc,hc⟩:∃z:Int,(if 0≤xc then xc%1099511627776 else -(-xc%1099511627776))=z:=⟨_,rfl⟩
 have hab:=mA (k:=xa) (n:=1099511627776) (by decide)
 rw[ha] at hab
 have hcb:=mA (k:=xc) (n:=1099511627776) (by decide)
 rw[hc] at hcb
 by_cases hp:plE pa xb pc xd=0
 ·have hok:=MM hp
  by_cases hd: -3000000≤n∧n≤3000000
  ·obtain⟨X0,hX0⟩:∃z:Int,amX n pa xb pc xd=z:=⟨_,rfl⟩
   obtain⟨L0,hL0⟩:∃z:Int,amL n pa xb pc xd=z:=⟨_,rfl⟩
   obtain⟨X9,hX9⟩:∃z:Int,amX (n-1) pa xb pc xd=z:=⟨_,rfl⟩
   have st:=St.start w
   refine go2 (nt:=43) Tryz.func6 rfl rfl rfl fun a hF=>?_
   refine wq ?_
   refine bx st hF 1 rfl rfl fun g3 w1 a st hF=>?_
   refine oC hF rfl fun a hF=>ns ?_
   refine wq ?_
   refine cX st hF (rgc k9 ir) (gK _ (hT.below st.bel)) rfl fun w2 a st hF=>?_
   refine oV hF (cF hF.o (bT _ false rfl)) rfl fun a hF=>?_
   refine E.nil ?_
   refine wp_cond_false hF.o ?_
   refine wp_skip ?_
   refine E.norm ?_
   refine wq ?_
   refine oV hF (av (hF.at 3 rfl) (gn (p:=0) rfl)) rfl fun a hF=>oV hF (au hF.o (bQ (v:= .int .i64 xa) (st.bk 0 rfl) rfl)) rfl fun a hF=>oV hF (aq hF.o ar ab (kt ha)) rfl fun a hF=>oV hF (av (hF.at 6 rfl) (gv (p:=2) rfl)) rfl fun a hF=>oV hF (au hF.o (bQ (v:= .int .i64 xc) (st.bk 0 rfl) rfl)) rfl fun a hF=>oV hF (aq hF.o ar ab (kt hc)) rfl fun a hF=>oV hF (av (hF.at 9 rfl) (gn (p:=0) rfl)) rfl fun a hF=>?_
   refine S.stooI (o:=0) (vs:=[.int .i64 pa]) (ws:=[.int .i64 pa,.int .i64 xb,.int .i64 xc,.int .i64 xd]) st hF 0 rfl hF.o (hF.at 4 rfl) rfl cM rfl rfl rfl rfl fun w3 a st hF=>?_
   refine oV hF (av (hF.at 10 rfl) (gv (p:=2) rfl)) rfl fun a hF=>?_
   refine S.stooI (o:=2) (vs:=[.int .i64 pc]) (ws:=[.int .i64 pa,.int .i64 xb,.int .i64 pc,.int .i64 xd]) st hF 0 rfl hF.o hF.q rfl cM rfl rfl rfl rfl fun w4 a st hF=>?_
   refine nq ?_
   refine oM hF 12 rfl rfl fun a hF=>oL hF st 12 0 aZ rfl rfl rfl rfl fun a hF=>?_
   refine cX st hF (rgc k12 (aI hF.p hF.o)) (wF n pa xb pc xd L0 X0 X9 _ (hT.below st.bel) (by first|assumption|constructor<;>omega) (by omega) (by omega) hL0 hX0 hX9) rfl fun w5 a st hF=>?_
   refine oM hF 0 rfl rfl fun a hF=>oV hF (aR (v:= .agg #[.int .i64 ((smV L0+1)/12-1955883044),.int .i64 ((smV L0+1)%12+1),.bool (decide (smV (aQ L0)=smV L0)),.int .i64 (X0%30+1),.bool (decide (X9=X0))]) hF.o rfl) rfl fun a hF=>oV hF (aR (v:= .int .i64 0) hF.p rfl) rfl fun a hF=>?_
   refine S.new st hF 1 rfl cL rfl rfl rfl rfl rfl fun g5 w6 a st hF=>?_
   refine oA hF 1 rfl rfl fun a hF=>ns ?_
   refine wq ?_
   refine oL hF st 19 1 aZ rfl rfl rfl rfl fun a hF=>?_
   refine cX st hF (rgc k23 (aD hF.o)) (gl pa xb pc xd _) rfl fun w7 a st hF=>?_
   refine oT hF 0 (kR (c:=false) (aV (by omega))) rfl rfl fun a hF=>oM hF 0 rfl rfl fun a hF=>og hF (aN (hF.at 24 rfl)) 0 rfl rfl rfl fun a hF=>og hF (aq hF.o ar ab (aU (bM (c:=false) (aV (by omega))) (by simp))) 1 rfl rfl rfl fun a hF=>oV hF (bp hF.q hF.o) rfl fun a hF=>oM hF 0 rfl rfl fun a hF=>og hF (aN (hF.at 28 rfl)) 0 rfl rfl rfl fun a hF=>?_
   refine og hF (aq hF.o ar ab (aU (db (c:=false) (aV (by omega))) (by simp))) 1 rfl rfl rfl fun a hF=>oV hF (bp hF.q hF.o) rfl fun a hF=>?_
   refine E.nil ?_
   refine wp_cond_false hF.o ?_
   refine wp_skip ?_
   refine E.norm ?_
   refine wq ?_
   refine oM hF 11 rfl rfl fun a hF=>oT hF 0 (a6 (c:=true) (by decide)) rfl rfl fun a hF=>oE hF 0 rfl rfl fun a hF=>nr ?_
   have bel:=st.bel
   refine rt Tryz.results6 hF 0 rfl ?_
   exact⟨rfl,bel⟩
  ·have st:=St.start w
   refine go2 (nt:=43) Tryz.func6 rfl rfl rfl fun a hF=>?_
   refine wq ?_
   refine bx st hF 1 rfl rfl fun g3 w1 a st hF=>?_
   refine oC hF rfl fun a hF=>ns ?_
   refine wq ?_
   refine cX st hF (rgc k9 ir) (gK _ (hT.below st.bel)) rfl fun w2 a st hF=>?_
   refine oV hF (cF hF.o (bT _ false rfl)) rfl fun a hF=>?_
   refine E.nil ?_
   refine wp_cond_false hF.o ?_
   refine wp_skip ?_
   refine E.norm ?_
   refine wq ?_
   refine oV hF (av (hF.at 3 rfl) (gn (p:=0) rfl)) rfl fun a hF=>oV hF (au hF.o (bQ (v:= .int .i64 xa) (st.bk 0 rfl) rfl)) rfl fun a hF=>oV hF (aq hF.o ar ab (kt ha)) rfl fun a hF=>oV hF (av (hF.at 6 rfl) (gv (p:=2) rfl)) rfl fun a hF=>oV hF (au hF.o (bQ (v:= .int .i64 xc) (st.bk 0 rfl) rfl)) rfl fun a hF=>oV hF (aq hF.o ar ab (kt hc)) rfl fun a hF=>oV hF (av (hF.at 9 rfl) (gn (p:=0) rfl)) rfl fun a hF=>?_
   refine S.stooI (o:=0) (vs:=[.int .i64 pa]) (ws:=[.int .i64 pa,.int .i64 xb,.int .i64 xc,.int .i64 xd]) st hF 0 rfl hF.o (hF.at 4 rfl) rfl cM rfl rfl rfl rfl fun w3 a st hF=>?_
   refine oV hF (av (hF.at 10 rfl) (gv (p:=2) rfl)) rfl fun a hF=>?_
   refine S.stooI (o:=2) (vs:=[.int .i64 pc]) (ws:=[.int .i64 pa,.int .i64 xb,.int .i64 pc,.int .i64 xd]) st hF 0 rfl hF.o hF.q rfl cM rfl rfl rfl rfl fun w4 a st hF=>?_
   refine nq ?_
   refine oM hF 12 rfl rfl fun a hF=>oL hF st 12 0 aZ rfl rfl rfl rfl fun a hF=>?_
   refine cX st hF (rgc k12 (aI hF.p hF.o)) (BF n pa xb pc xd _ (by omega) (by omega)) rfl fun w5 a st hF=>?_
   refine oM hF 0 rfl rfl fun a hF=>oV hF (aR (v:= .agg #[.int .i64 0,.int .i64 0,.bool false,.int .i64 0,.bool false]) hF.o rfl) rfl fun a hF=>oV hF (aR (v:= .int .i64 2) hF.p rfl) rfl fun a hF=>?_
   refine S.new st hF 1 rfl cL rfl rfl rfl rfl rfl fun g5 w6 a st hF=>?_
   refine oA hF 1 rfl rfl fun a hF=>ns ?_
   refine wq ?_
   refine oL hF st 19 1 aZ rfl rfl rfl rfl fun a hF=>?_
   refine cX st hF (rgc k23 (aD hF.o)) (gl pa xb pc xd _) rfl fun w7 a st hF=>?_
   refine oT hF 0 (kR (c:=false) (aV (by omega))) rfl rfl fun a hF=>oM hF 0 rfl rfl fun a hF=>og hF (aN (hF.at 24 rfl)) 0 rfl rfl rfl fun a hF=>?_
   by_cases hc8:n<(-3000000)
   ·refine og hF (aq hF.o ar ab (aU (bM (c:=true) (aL hc8)) (by simp))) 1 rfl rfl rfl fun a hF=>oV hF (bp hF.q hF.o) rfl fun a hF=>oM hF 0 rfl rfl fun a hF=>nu hF 0 rfl rfl rfl fun a hF=>nu hF 1 rfl rfl rfl fun a hF=>oV hF (aH hF.q ar) rfl fun a hF=>?_
    refine E.nil ?_
    refine wp_cond_true hF.o ?_
    refine wq ?_
    refine oM hF 11 rfl rfl fun a hF=>oT hF 0 (a6 (c:=true) (by decide)) rfl rfl fun a hF=>oM hF 0 rfl rfl fun a hF=>og hF (au (hF.at 15 rfl) (bF cL (st.bk 0 rfl) rfl)) 0 rfl rfl rfl fun a hF=>og hF (bh (by simp) (mg _)) 1 rfl rfl rfl fun a hF=>og hF (aq hF.p hF.o sr (rq (aL ⟨rfl,rfl,rfl,rfl,rfl⟩))) 2 rfl rfl rfl fun a hF=>oV hF (aH (hF.at 3 rfl) hF.o) rfl fun a hF=>?_
    refine oE hF 0 rfl rfl fun a hF=>nr ?_
    have bel:=st.bel
    refine rt Tryz.results6 hF 0 rfl ?_
    exact⟨rfl,bel⟩
   ·refine og hF (aq hF.o ar ab (aU (bM (c:=false) (aV hc8)) (by simp))) 1 rfl rfl rfl fun a hF=>oV hF (bp hF.q hF.o) rfl fun a hF=>oM hF 0 rfl rfl fun a hF=>og hF (aN (hF.at 28 rfl)) 0 rfl rfl rfl fun a hF=>?_
    by_cases hc9:3000000<n
    ·refine og hF (aq hF.o ar ab (aU (db (c:=true) (aL hc9)) (by simp))) 1 rfl rfl rfl fun a hF=>oV hF (bp hF.q hF.o) rfl fun a hF=>?_
     refine E.nil ?_
     refine wp_cond_true hF.o ?_
     refine wq ?_
     refine oM hF 11 rfl rfl fun a hF=>oT hF 0 (a6 (c:=true) (by decide)) rfl rfl fun a hF=>oM hF 0 rfl rfl fun a hF=>og hF (au (hF.at 15 rfl) (bF cL (st.bk 0 rfl) rfl)) 0 rfl rfl rfl fun a hF=>og hF (bh (by simp) (mg _)) 1 rfl rfl rfl fun a hF=>og hF (aq hF.p hF.o sr (rq (aL ⟨rfl,rfl,rfl,rfl,rfl⟩))) 2 rfl rfl rfl fun a hF=>oV hF (aH (hF.at 3 rfl) hF.o) rfl fun a hF=>?_
     refine oE hF 0 rfl rfl fun a hF=>nr ?_
     have bel:=st.bel
     refine rt Tryz.results6 hF 0 rfl ?_
     exact⟨rfl,bel⟩
    ·exfalso;omega
 ·have h2:=Od pa xb pc xd
  have st:=St.start w
  refine go2 (nt:=43) Tryz.func6 rfl rfl rfl fun a hF=>?_
  refine wq ?_
  refine bx st hF 1 rfl rfl fun g3 w1 a st hF=>?_
  refine oC hF rfl fun a hF=>ns ?_
  refine wq ?_
  refine cX st hF (rgc k9 ir) (gK _ (hT.below st.bel)) rfl fun w2 a st hF=>?_
  refine oV hF (cF hF.o (bT _ false rfl)) rfl fun a hF=>?_
  refine E.nil ?_
  refine wp_cond_false hF.o ?_
  refine wp_skip ?_
  refine E.norm ?_
  refine wq ?_
  refine oV hF (av (hF.at 3 rfl) (gn (p:=0) rfl)) rfl fun a hF=>oV hF (au hF.o (bQ (v:= .int .i64 xa) (st.bk 0 rfl) rfl)) rfl fun a hF=>oV hF (aq hF.o ar ab (kt ha)) rfl fun a hF=>oV hF (av (hF.at 6 rfl) (gv (p:=2) rfl)) rfl fun a hF=>oV hF (au hF.o (bQ (v:= .int .i64 xc) (st.bk 0 rfl) rfl)) rfl fun a hF=>oV hF (aq hF.o ar ab (kt hc)) rfl fun a hF=>oV hF (av (hF.at 9 rfl) (gn (p:=0) rfl)) rfl fun a hF=>?_
  refine S.stooI (o:=0) (vs:=[.int .i64 pa]) (ws:=[.int .i64 pa,.int .i64 xb,.int .i64 xc,.int .i64 xd]) st hF 0 rfl hF.o (hF.at 4 rfl) rfl cM rfl rfl rfl rfl fun w3 a st hF=>?_
  refine oV hF (av (hF.at 10 rfl) (gv (p:=2) rfl)) rfl fun a hF=>?_
  refine S.stooI (o:=2) (vs:=[.int .i64 pc]) (ws:=[.int .i64 pa,.int .i64 xb,.int .i64 pc,.int .i64 xd]) st hF 0 rfl hF.o hF.q rfl cM rfl rfl rfl rfl fun w4 a st hF=>?_
  refine nq ?_
  refine oM hF 12 rfl rfl fun a hF=>oL hF st 12 0 aZ rfl rfl rfl rfl fun a hF=>?_
  refine cX st hF (rgc k12 (aI hF.p hF.o)) (ua n pa xb pc xd _ (by omega)) rfl fun w5 a st hF=>?_
  refine oM hF 0 rfl rfl fun a hF=>oV hF (aR (v:= .agg #[.int .i64 0,.int .i64 0,.bool false,.int .i64 0,.bool false]) hF.o rfl) rfl fun a hF=>oV hF (aR (v:= .int .i64 (plE pa xb pc xd)) hF.p rfl) rfl fun a hF=>?_
  refine S.new st hF 1 rfl cL rfl rfl rfl rfl rfl fun g5 w6 a st hF=>?_
  refine oA hF 1 rfl rfl fun a hF=>ns ?_
  refine wq ?_
  refine oL hF st 19 1 aZ rfl rfl rfl rfl fun a hF=>?_
  refine cX st hF (rgc k23 (aD hF.o)) (gl pa xb pc xd _) rfl fun w7 a st hF=>?_
  refine oT hF 0 (kR (c:=true) (aL (by omega))) rfl rfl fun a hF=>oM hF 0 rfl rfl fun a hF=>nu hF 0 rfl rfl rfl fun a hF=>nu hF 1 rfl rfl rfl fun a hF=>oV hF (aH hF.q ar) rfl fun a hF=>oM hF 0 rfl rfl fun a hF=>nu hF 0 rfl rfl rfl fun a hF=>?_
  refine nu hF 1 rfl rfl rfl fun a hF=>oV hF (aH hF.q ar) rfl fun a hF=>?_
  refine E.nil ?_
  refine wp_cond_true hF.o ?_
  refine wq ?_
  refine oM hF 11 rfl rfl fun a hF=>oT hF 0 (a6 (c:=true) (aL (by omega))) rfl rfl fun a hF=>oM hF 0 rfl rfl fun a hF=>og hF (au (hF.at 15 rfl) (bF cL (st.bk 0 rfl) rfl)) 0 rfl rfl rfl fun a hF=>og hF (bh (by simp) (mg _)) 1 rfl rfl rfl fun a hF=>og hF (aq hF.p hF.o sr (rq (aL ⟨rfl,rfl,rfl,rfl,rfl⟩))) 2 rfl rfl rfl fun a hF=>oV hF (aH (hF.at 3 rfl) hF.o) rfl fun a hF=>?_
  refine oE hF 0 rfl rfl fun a hF=>nr ?_
  have bel:=st.bel
  refine rt Tryz.results6 hF 0 rfl ?_
  exact⟨rfl,bel⟩
end Go.Proofs.YtdbiegfmgabicaaGreatDoor
