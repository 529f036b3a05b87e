import Derived.Test.YtddiipaomejcfaaGreatDoorKB39
namespace Go.Proofs.YtddiipaomejcfaaGreatDoor
open Go.RowKit
set_option maxRecDepth 100000
set_option linter.unusedVariables false
set_option maxHeartbeats 8000000
theorem Gc (z20:Int) (w:World):(Instr.build 61 #[(2,iv z20)]).run Tryz.prog w= .ok (.agg #[iv 0,iv 0,iv z20,iv 0]) w:=by
 have hz:=cj rG w
 have h_int:∀w,(sizeOf 3).run Tryz.prog w= .ok 1 w:=fun w=>aV cW w
 have h_i64:∀w,(sizeOf 2).run Tryz.prog w= .ok 1 w:=fun w=>aV dz w
 simp only [Instr.build,Sem.run_bind,hz,Result.andThen_ok,run_underlying Tryz.underlying61,List.mapM_toArray,List.mapM_cons,List.mapM_nil,Sem.run_map,h_i64,h_int,Sem.run_pure]
 rfl
theorem AH (z0 z1 z2 z3 d:Int) (w:World) (h0:0<=z2) (h1:z2<=11) (h2:0<=z3) (h3:z3<=11):
 CV 39 #[.agg #[iv z0,iv z1,iv z2,iv z3],iv d] w (iv (puF d z2 z3)):=by
 refine gs2 (nt:=15) Tryz.func39 rfl rfl rfl fun a st hF=>wq<|bx st hF 0 rfl rfl fun g2 w1 a st hF=>?_
 refine oC hF rfl fun a hF=>ns<|wq<|oM hF 3 rfl rfl fun a hF=>?_
 by_cases hc2:d<=15
 ·first
  |(exfalso;omega)
  |(refine oT hF 0 (bv (c:=true) (aK hc2)) rfl rfl fun a hF=>?_
    refine E.nil<|wp_cond_true hF.o<|wq<|oL hF st 3 0 bX rfl rfl rfl rfl fun a hF=>cX st hF (rgc k50 (aD hF.o)) (fV z0 z1 z2 z3 _ (by omega) (by omega)) rfl fun w3 a st hF=>?_
    refine oE hF 0 rfl rfl fun a hF=>nr ?_
    have bel:=st.bel
    refine rt Tryz.results39 hF 0 rfl ?_
    refine⟨bC ?_,bel⟩
    have hpf:=vP d z2 z3
    omega)
 ·first
  |(exfalso;omega)
  |(refine oT hF 0 (bv (c:=false) (aL hc2)) rfl rfl fun a hF=>?_
    refine E.nil<|wp_cond_false hF.o<|wp_skip<|E.norm<|wq<|oV hF (az (hF.at 3 rfl) (kK (p:=3) rfl)) rfl fun a hF=>oV hF (av hF.o (aP (v:= iv z3) (st.bk 0 rfl) rfl)) rfl fun a hF=>oV hF (be (eZ hF.o) (Gc _ _)) rfl fun a hF=>S.new st hF 0 rfl bX rfl rfl rfl rfl rfl fun g5 w4 a st hF=>nq<|oL hF st 0 0 bX rfl rfl rfl rfl fun a hF=>?_
    refine cX st hF (rgc k50 (aD hF.o)) (fV 0 0 z3 0 _ (by omega) (by omega)) rfl fun w5 a st hF=>?_
    refine oE hF 0 rfl rfl fun a hF=>nr ?_
    have bel:=st.bel
    refine rt Tryz.results39 hF 0 rfl ?_
    refine⟨bC ?_,bel⟩
    have hpf:=vP d z2 z3
    omega)
theorem tL (n xa xb xc xd L X Y:Int) (w:World) (hT:bn w) (hok:cr xa xb xc xd) (hn0: -3800000<=n) (hn1:n<=3800000) (hL:amL n xa xb xc xd=L) (hX:amX n xa xb xc xd=X) (hY:amX (n-1) xa xb xc xd=Y):
 CV 70 #[.agg #[iv ((smV L+1)/12-1955883044),iv ((smV L+1)%12+1),.bool (decide (smV (au L)=smV L)),iv (X%30+1),.bool (decide (Y=X))],iv n,.agg #[iv xa,iv xb,iv xc,iv xd]] w (.agg #[iv ((smV L+1)/12-1955883044),iv (puM L X),.bool (decide (smV (au L)=smV L)),iv (X%30+1),.bool (decide (Y=X))]):=by
 have hnr:=Jz hok n
 rw[hL] at hnr
 refine gs3 (nt:=19) Tryz.func70 rfl rfl rfl fun a st hF=>wq<|bx st hF 0 rfl rfl fun g3 w1 a st hF=>bx st hF 3 rfl rfl fun g5 w2 a st hF=>S.alloc st hF bw rfl rfl fun g6 w3 a st hF=>ns<|wq<|oV hF (az hF.q (eo (p:=3) rfl)) rfl fun a hF=>oV hF (av hF.o (aP (v:= iv (X%30+1)) (st.bk 2 rfl) rfl)) rfl fun a hF=>?_
 by_cases hc4:15<X%30+1
 ·refine oT hF 0 (bN (c:=true) (aK hc4)) rfl rfl fun a hF=>E.nil<|wp_cond_true hF.o ?_
  refine E.rg 8 aG hF [10,11,12,13,14,15,16,17] [_,_,_,_,_,_,_,_] (by decide+kernel) rfl rfl rfl ⟨rm 7 rfl,rb st bi 4 1 rfl,ck st k38 rfl fun _ s=>aR (jQ n xa xb xc xd _ (hT.below s.bel) (by first|assumption|constructor<;>omega) (by omega) (by omega)) (il (by first|assumption|constructor<;>omega) (by omega) (by omega)),ck st k37 rfl fun _ s _ x12=>a7 (zM _ (hT.below s.bel) x12.1 x12.2 (by omega) (by have:=ld hok n;omega) (by have:=ld hok n;omega) hL),rfd 5 (fun _=>eo (p:=3) rfl) rfl,rld rfl fun _ hb=>(aP (v:= iv (X%30+1)) ((st.bk 2 rfl).below hb) rfl),ck st k39 rfl fun _ s=>a7 (AH L (au L) (smV L%12) (smV (au L)%12) (X%30+1) _ (by omega) (by omega) (by omega) (by omega)),rfd 5 (fun _=>eQ (p:=1) rfl) rfl,trivial⟩ ?_
  intro a w5 hF bb hall
  replace st:=st.to bb
  replace hF:=rE hall hF 6 rfl rfl
  have hpf:=vP (X%30+1) (smV L%12) (smV (au L)%12)
  replace hF:=rE hall hF 7 rfl rfl
  clear hall bb
  refine S.stooI (o:=1) (vs:=[iv (puF (X%30+1) (smV L%12) (smV (au L)%12))]) (ws:=[iv ((smV L+1)/12-1955883044),iv (puF (X%30+1) (smV L%12) (smV (au L)%12)),.bool (decide (smV (au L)=smV L)),iv (X%30+1),.bool (decide (Y=X))]) st hF 2 rfl hF.o hF.p rfl cW rfl rfl rfl rfl fun w6 a st hF=>?_
  refine nq<|oL hF st 7 2 bw rfl rfl rfl rfl fun a hF=>S.stoI st hF 0 rfl (hF.at 6 rfl) hF.o bw rfl rfl rfl fun w7 a st hF=>nr<|rs Tryz.results70 st hF 6 0 bw rfl rfl rfl ?_
  refine⟨pz rfl ?_ rfl rfl rfl,st.bel⟩
  unfold puM
  rw[if_pos (by omega)]
  omega
 ·refine oT hF 0 (bN (c:=false) (aL hc4)) rfl rfl fun a hF=>E.nil<|wp_cond_false hF.o<|wp_skip<|E.norm<|wq<|oL hF st 5 2 bw rfl rfl rfl rfl fun a hF=>S.stoI st hF 0 rfl (hF.at 4 rfl) hF.o bw rfl rfl rfl fun w8 a st hF=>nr<|rs Tryz.results70 st hF 4 0 bw rfl rfl rfl ?_
  refine⟨pz rfl ?_ rfl rfl rfl,st.bel⟩
  unfold puM
  rw[if_neg (by omega)]
theorem xO (n xa xb xc xd L X Y:Int) (w:World) (hT:bn w) (hok:cr xa xb xc xd) (hn0: -3800000<=n) (hn1:n<=3800000) (hL:amL n xa xb xc xd=L) (hX:amX n xa xb xc xd=X) (hY:amX (n-1) xa xb xc xd=Y):
 CV 35 #[iv n,.agg #[iv xa,iv xb,iv xc,iv xd]] w (.agg #[iv ((smV L+1)/12-1955883044),iv (puM L X),.bool (decide (smV (au L)=smV L)),iv (X%30+1),.bool (decide (Y=X))]):=by
 refine gs2 (nt:=11) Tryz.func35 rfl rfl rfl fun a st hF=>wq<|bx st hF 1 rfl rfl fun g3 w1 a st hF=>S.alloc st hF bw rfl rfl fun g4 w2 a st hF=>ns ?_
 refine E.rg 6 aG hF [5,6,7,8,9,10] [_,_,_,_,_,_] (by decide+kernel) rfl rfl rfl ⟨rm 2 rfl,rb st bi 1 1 rfl,ck st k22 rfl fun _ s=>a7 (lH n xa xb xc xd L X Y _ (hT.below s.bel) (by first|assumption|constructor<;>omega) (by omega) (by omega) hL hX hY),rm 2 rfl,rb st bi 1 1 rfl,ck st k70 rfl fun _ s=>a7 (tL n xa xb xc xd L X Y _ (hT.below s.bel) hok (by omega) (by omega) hL hX hY),trivial⟩ ?_
 intro a w3 hF bb hall
 replace st:=st.to bb
 replace hF:=rE hall hF 5 rfl rfl
 clear hall bb
 refine S.stoI st hF 0 rfl hF.p hF.o bw rfl rfl rfl fun w4 a st hF=>nr<|rs Tryz.results35 st hF 1 0 bw rfl rfl rfl ?_
 exact⟨rfl,st.bel⟩
theorem CY (n xa xb xc xd:Int) (w:World) (hE:plE xa xb xc xd≠0):
 CV 33 #[iv n,.agg #[iv xa,iv xb,iv xc,iv xd]] w (.tuple #[.agg #[iv 0,iv 0,.bool false,iv 0,.bool false],iv (plE xa xb xc xd)]):=by
 refine gs2 (nt:=22) Tryz.func33 rfl rfl rfl fun a st hF=>wq<|bx st hF 1 rfl rfl fun g3 w1 a st hF=>S.alloc st hF bw rfl rfl fun g4 w2 a st hF=>?_
 refine oC hF rfl fun a hF=>nq<|oM hF 3 rfl rfl fun a hF=>oL hF st 3 1 bi rfl rfl rfl rfl fun a hF=>cX st hF (rgc k16 (aF hF.p hF.o)) (CD n xa xb xc xd _ hE) rfl fun w3 a st hF=>oM hF 0 rfl rfl fun a hF=>oV hF (aM (v:= .agg #[iv 0,iv 0,.bool false,iv 0,.bool false]) hF.o rfl) rfl fun a hF=>oV hF (aM (v:= iv (plE xa xb xc xd)) hF.p rfl) rfl fun a hF=>S.new st hF 1 rfl bw rfl rfl rfl rfl rfl fun g6 w4 a st hF=>?_
 refine oA hF 1 rfl rfl fun a hF=>ns<|wq<|oM hF 0 rfl rfl fun a hF=>oT hF 0 (cB (c:=true) (aK hE)) rfl rfl fun a hF=>E.nil<|wp_cond_true hF.o<|wq<|oV hF (be (by simp) (zz _)) rfl fun a hF=>oM hF 3 rfl rfl fun a hF=>S.stoI st hF 1 rfl (hF.at 13 rfl) hF.p bw rfl rfl rfl fun w5 a st hF=>?_
 refine oE hF 0 rfl rfl fun a hF=>nr ?_
 have bel:=st.bel
 refine bodyPost_ret (jy Tryz.results33 (hF.at 13 rfl) (aX bw (st.bk 1 rfl) rfl) hF.o) hF.dfr ?_
 exact⟨rfl,bel⟩
theorem D0 (n xa xb xc xd L X Y:Int) (w:World) (hT:bn w) (hok:cr xa xb xc xd) (hn0: -3000000<=n) (hn1:n<=3000000) (hL:amL n xa xb xc xd=L) (hX:amX n xa xb xc xd=X) (hY:amX (n-1) xa xb xc xd=Y):
 CV 33 #[iv n,.agg #[iv xa,iv xb,iv xc,iv xd]] w (.tuple #[.agg #[iv ((smV L+1)/12-1955883044),iv (puM L X),.bool (decide (smV (au L)=smV L)),iv (X%30+1),.bool (decide (Y=X))],iv 0]):=by
 refine gs2 (nt:=22) Tryz.func33 rfl rfl rfl fun a st hF=>wq<|bx st hF 1 rfl rfl fun g3 w1 a st hF=>S.alloc st hF bw rfl rfl fun g4 w2 a st hF=>?_
 refine oC hF rfl fun a hF=>nq<|oM hF 3 rfl rfl fun a hF=>oL hF st 3 1 bi rfl rfl rfl rfl fun a hF=>cX st hF (rgc k16 (aF hF.p hF.o)) (F3 n xa xb xc xd L X Y _ (hT.below st.bel) (by first|assumption|constructor<;>omega) (by omega) (by omega) hL hX hY) rfl fun w3 a st hF=>oM hF 0 rfl rfl fun a hF=>oV hF (aM (v:= .agg #[iv ((smV L+1)/12-1955883044),iv ((smV L+1)%12+1),.bool (decide (smV (au L)=smV L)),iv (X%30+1),.bool (decide (Y=X))]) hF.o rfl) rfl fun a hF=>oV hF (aM (v:= iv 0) hF.p rfl) rfl fun a hF=>S.new st hF 1 rfl bw rfl rfl rfl rfl rfl fun g6 w4 a st hF=>?_
 refine oA hF 1 rfl rfl fun a hF=>ns<|wq<|oM hF 0 rfl rfl fun a hF=>oT hF 0 (cB (c:=false) (by decide)) rfl rfl fun a hF=>E.nil<|wp_cond_false hF.o<|wp_skip<|E.norm<|wq<|oL hF st 3 0 bw rfl rfl rfl rfl fun a hF=>oM hF 14 rfl rfl fun a hF=>oL hF st 14 2 bi rfl rfl rfl rfl fun a hF=>?_
 refine cX st hF (rgc k70 (xr hF.q hF.p hF.o)) (tL n xa xb xc xd L X Y _ (hT.below st.bel) hok (by omega) (by omega) hL hX hY) rfl fun w5 a st hF=>S.stoI st hF 1 rfl (hF.at 15 rfl) hF.o bw rfl rfl rfl fun w6 a st hF=>?_
 refine oS hF (aZ ao) rfl fun a hF=>nr ?_
 have bel:=st.bel
 refine bodyPost_ret (jy Tryz.results33 (hF.at 15 rfl) (aX bw (st.bk 1 rfl) rfl) hF.o) hF.dfr ?_
 exact⟨rfl,bel⟩
theorem Cf (wa wb wc wd:Int) (w:World):
 CV 15 #[.agg #[iv wa,iv wb,iv wc,iv wd]] w (.agg #[iv (gA 60 120 wa wb),iv (gB wb),iv (gA 180 360 wc wd),iv (gB wd)]):=by
 refine gs1 (nt:=12) Tryz.func15 rfl rfl rfl fun a st hF=>wq<|bx st hF 0 rfl rfl fun g1 w1 a st hF=>S.alloc st hF bi rfl rfl fun g2 w2 a st hF=>nq<|oV hF (az hF.p (DY (p:=0) rfl)) rfl fun a hF=>oV hF (av hF.o (bD (v:= iv wa) (st.bk 1 rfl) rfl)) rfl fun a hF=>oV hF (az (hF.at 3 rfl) (Ey (p:=1) rfl)) rfl fun a hF=>oV hF (av hF.o (bD (v:= iv wb) (st.bk 1 rfl) rfl)) rfl fun a hF=>oV hF (az (hF.at 5 rfl) (Fl (p:=2) rfl)) rfl fun a hF=>oV hF (av hF.o (bD (v:= iv wc) (st.bk 1 rfl) rfl)) rfl fun a hF=>oV hF (az (hF.at 7 rfl) (FX (p:=3) rfl)) rfl fun a hF=>?_
 refine oV hF (av hF.o (bD (v:= iv wd) (st.bk 1 rfl) rfl)) rfl fun a hF=>cX st hF (rgc k42 (Fm (hF.at 6 rfl) (hF.at 4 rfl) hF.q hF.o)) (F4 wa wb wc wd _) rfl fun w3 a st hF=>?_
 have hg1:=mF wb
 have hg2:=sR wa wb
 have hg3:=mF wd
 have hg4:=tk wc wd
 have hok9250:=sA wa wb wc wd
 refine S.stoI st hF 0 rfl (hF.at 9 rfl) hF.o bi rfl rfl rfl fun w4 a st hF=>nr<|rs Tryz.results15 st hF 9 0 bi rfl rfl rfl ?_
 exact⟨rfl,st.bel⟩
theorem m8 {wa wb wc wd pa pb pc pd:Int} (w:World) (ha:gA 60 120 wa wb=pa) (hb:gB wb=pb) (hc:gA 180 360 wc wd=pc) (hd:gB wd=pd):CV 15 #[.agg #[iv wa,iv wb,iv wc,iv wd]] w (.agg #[iv pa,iv pb,iv pc,iv pd]):=by
 subst ha hb hc hd
 exact Cf wa wb wc wd w
theorem Ls {n z:Int} (w:World) (h:inD n=z):CV 14 #[iv n] w (iv z):=by
 subst h
 exact Hv n w
theorem tQ (z10:Int) (z30:Int) (w:World):(Instr.build 29 #[(1,iv z10),(3,iv z30)]).run Tryz.prog w= .ok (.agg #[iv 0,iv z10,.bool false,iv z30,.bool false]) w:=by
 have hz:=cj rI w
 have h_bool:∀w,(sizeOf 4).run Tryz.prog w= .ok 1 w:=fun w=>aV ed w
 have h_int:∀w,(sizeOf 3).run Tryz.prog w= .ok 1 w:=fun w=>aV cW w
 have h_i64:∀w,(sizeOf 2).run Tryz.prog w= .ok 1 w:=fun w=>aV dz w
 simp only [Instr.build,Sem.run_bind,hz,Result.andThen_ok,run_underlying Tryz.underlying29,List.mapM_toArray,List.mapM_cons,List.mapM_nil,Sem.run_map,h_bool,h_i64,h_int,Sem.run_pure]
 rfl
theorem ic (w:World) (hT:bn w):
 CV 13 #[] w (.bool true):=by
 refine gs0 (nt:=15) Tryz.func13 rfl rfl fun a st hF=>wq ?_
 refine oC hF rfl fun a hF=>nq<|oV hF (be (eX ao ao) (tQ _ _ _)) rfl fun a hF=>cX st hF (rgc k41 hZ) (tf _) rfl fun w1 a st hF=>cX st hF (rgc k17 (aF hF.p hF.o)) (nj 0 1 false 31 false 463 20 45461 600 _ (by decide+kernel)) rfl fun w2 a st hF=>?_
 refine oM hF 0 rfl rfl fun a hF=>oV hF (aM (v:= iv 0) hF.o rfl) rfl fun a hF=>oV hF (aM (v:= iv (dU 0 1 31 463 20 45461 600)) hF.p rfl) rfl fun a hF=>oA hF 1 rfl rfl fun a hF=>oA hF 1 rfl rfl fun a hF=>nq<|oM hF 0 rfl rfl fun a hF=>oT hF 0 (aQ (c:=true) (aK (by decide+kernel))) rfl rfl fun a hF=>oM hF 0 rfl rfl fun a hF=>?_
 refine S.callxg st hF (ag rfl rfl hF.o rfl) (rgc k25 (aF ao ao)) (gq (-3044) 2 _ (by omega) (by omega) (by omega) (by omega)) rfl rfl rfl fun w3 a st hF=>?_
 refine og hF (aq hF.o ao aa (aI (aQ (c:=true) (aK (by decide+kernel))) (by simp))) 1 rfl rfl rfl fun a hF=>oV hF (aH hF.q hF.o) rfl fun a hF=>oE hF 0 rfl rfl fun a hF=>nr ?_
 have bel:=st.bel
 refine rt Tryz.results13 hF 0 rfl ?_
 exact⟨rfl,bel⟩
theorem AX (y m:Int) (l:Bool) (x:Int) (u:Bool) (xa xb xc xd:Int) (w:World) (hE:dU y m x xa xb xc xd≠0):
 CV 36 #[.agg #[iv y,iv m,.bool l,iv x,.bool u],.agg #[iv xa,iv xb,iv xc,iv xd]] w (.tuple #[iv (0),iv (dU y m x xa xb xc xd)]):=by
 refine gs2 (nt:=64) Tryz.func36 rfl rfl rfl fun a st hF=>wq<|bx st hF 0 rfl rfl fun g2 w1 a st hF=>bx st hF 2 rfl rfl fun g3 w2 a st hF=>?_
 refine oC hF rfl fun a hF=>oC hF rfl fun a hF=>ns<|wq<|oL hF st 3 1 bw rfl rfl rfl rfl fun a hF=>oL hF st 3 0 bi rfl rfl rfl rfl fun a hF=>cX st hF (rgc k18 (aF hF.p hF.o)) (eL y m l x u xa xb xc xd _) rfl fun w3 a st hF=>?_
 refine oA hF 0 rfl rfl fun a hF=>nq<|oM hF 0 rfl rfl fun a hF=>oT hF 0 (cB (c:=true) (aK hE)) rfl rfl fun a hF=>E.nil<|wp_cond_true hF.o<|wq ?_
 refine oM hF 2 rfl rfl fun a hF=>oS hF (aZ ao) rfl fun a hF=>oE hF 1 rfl rfl fun a hF=>nr ?_
 have bel:=st.bel
 refine bodyPost_ret (dT Tryz.results36 hF.p hF.o) hF.dfr ?_
 exact⟨rfl,bel⟩
theorem xW (w:World) (hT:bn w):
 CV 32 #[] w (.bool true):=by
 refine gs0 (nt:=24) Tryz.func32 rfl rfl fun a st hF=>wq ?_
 refine oC hF rfl fun a hF=>nq<|oV hF (be (eX ao ao) (tQ _ _ _)) rfl fun a hF=>cX st hF (rgc k41 hZ) (tf _) rfl fun w1 a st hF=>cX st hF (rgc k36 (aF hF.p hF.o)) (AX 0 1 false 31 false 463 20 45461 600 _ (by decide+kernel)) rfl fun w2 a st hF=>?_
 refine oM hF 0 rfl rfl fun a hF=>oV hF (aM (v:= iv 0) hF.o rfl) rfl fun a hF=>oV hF (aM (v:= iv (dU 0 1 31 463 20 45461 600)) hF.p rfl) rfl fun a hF=>oA hF 1 rfl rfl fun a hF=>oA hF 1 rfl rfl fun a hF=>nq<|oV hF (be (by simp) (Jq _)) rfl fun a hF=>cX st hF (rgc k33 (aF ao hF.o)) (CY 0 0 0 0 0 _ (by decide+kernel)) rfl fun w3 a st hF=>oM hF 0 rfl rfl fun a hF=>oV hF (aM (v:= .agg #[iv 0,iv 0,.bool false,iv 0,.bool false]) hF.o rfl) rfl fun a hF=>oV hF (aM (v:= iv (plE 0 0 0 0)) hF.p rfl) rfl fun a hF=>?_
 refine S.new st hF 1 rfl bw rfl rfl rfl rfl rfl fun g3 w4 a st hF=>?_
 refine oA hF 1 rfl rfl fun a hF=>nq<|oM hF 7 rfl rfl fun a hF=>oT hF 0 (aQ (c:=true) (aK (by decide+kernel))) rfl rfl fun a hF=>oM hF 0 rfl rfl fun a hF=>og hF (aB (hF.at 3 rfl)) 0 rfl rfl rfl fun a hF=>og hF (aq hF.o ao aa (aI (aQ (c:=true) (aK (by decide+kernel))) (by simp))) 1 rfl rfl rfl fun a hF=>oV hF (aH hF.q hF.o) rfl fun a hF=>oM hF 0 rfl rfl fun a hF=>?_
 refine oV hF (aH hF.o ao) rfl fun a hF=>oE hF 0 rfl rfl fun a hF=>nr ?_
 have bel:=st.bel
 refine rt Tryz.results32 hF 0 rfl ?_
 exact⟨rfl,bel⟩
theorem sr (y m:Int) (l:Bool) (d:Int) (g:Bool) (w:World):
 CV 20 #[.agg #[iv y,iv m,.bool l,iv d,.bool g]] w (.agg #[iv y,iv m,.bool l,iv d,.bool g]):=by
 refine gs1 (nt:=14) Tryz.func20 rfl rfl rfl fun a st hF=>wq<|bx st hF 0 rfl rfl fun g1 w1 a st hF=>S.alloc st hF eC rfl rfl fun g2 w2 a st hF=>nq<|oV hF (az hF.p (gF (p:=0) rfl)) rfl fun a hF=>oV hF (av hF.o (bD (v:= iv y) (st.bk 1 rfl) rfl)) rfl fun a hF=>oV hF (az (hF.at 3 rfl) (eQ (p:=1) rfl)) rfl fun a hF=>oV hF (av hF.o (aP (v:= iv m) (st.bk 1 rfl) rfl)) rfl fun a hF=>oV hF (az (hF.at 5 rfl) (vo (p:=2) rfl)) rfl fun a hF=>oV hF (av hF.o (kO (v:= .bool l) (st.bk 1 rfl) rfl)) rfl fun a hF=>oV hF (az (hF.at 7 rfl) (eo (p:=3) rfl)) rfl fun a hF=>?_
 refine oV hF (av hF.o (aP (v:= iv d) (st.bk 1 rfl) rfl)) rfl fun a hF=>oV hF (az (hF.at 9 rfl) (Fj (p:=4) rfl)) rfl fun a hF=>oV hF (av hF.o (kO (v:= .bool g) (st.bk 1 rfl) rfl)) rfl fun a hF=>oV hF (be (uC (hF.at 8 rfl) (hF.at 6 rfl) (hF.at 4 rfl) hF.q hF.o) (nQ _ _ _ _ _ _)) rfl fun a hF=>S.stoI st hF 0 rfl (hF.at 11 rfl) hF.o eC rfl rfl rfl fun w3 a st hF=>nr<|rs Tryz.results20 st hF 11 0 eC rfl rfl rfl ?_
 exact⟨rfl,st.bel⟩
theorem purnimaDays_walk (n wa wb wc wd:Int) (w:World) (hT:bn w):
 CV 8 #[iv n,.agg #[iv wa,iv wb,iv wc,iv wd]] w (.bool true):=by
 obtain⟨pa,hpa⟩:∃z:Int,gA 60 120 wa wb=z:=⟨_,rfl⟩
 obtain⟨pb,hpb⟩:∃z:Int,gB wb=z:=⟨_,rfl⟩
 obtain⟨pc,hpc⟩:∃z:Int,gA 180 360 wc wd=z:=⟨_,rfl⟩
 obtain⟨pd,hpd⟩:∃z:Int,gB wd=z:=⟨_,rfl⟩
 have hok:cr pa pb pc pd:=by rw[<-hpa,<-hpb,<-hpc,<-hpd];exact sA wa wb wc wd
 have hp1:=hok.b0
 have hp2:=hok.b1
 have hp3:=hok.a0
 have hp4:=hok.a1
 have hp5:=hok.d0
 have hp6:=hok.d1
 have hp7:=hok.c0
 have hp8:=hok.c1
 obtain⟨ny,hny⟩:∃z:Int,inD n=z:=⟨_,rfl⟩
 have hin0:=KH n
 rw[hny] at hin0
 obtain⟨X0,hX0⟩:∃z:Int,amX ny pa pb pc pd=z:=⟨_,rfl⟩
 obtain⟨L0,hL0⟩:∃z:Int,amL ny pa pb pc pd=z:=⟨_,rfl⟩
 obtain⟨X9,hX9⟩:∃z:Int,amX (ny-1) pa pb pc pd=z:=⟨_,rfl⟩
 obtain⟨L9,hL9⟩:∃z:Int,amL (ny-1) pa pb pc pd=z:=⟨_,rfl⟩
 refine gs2 (nt:=39) Tryz.func8 rfl rfl rfl fun a st hF=>wq<|bx st hF 1 rfl rfl fun g3 w1 a st hF=>?_
 refine oC hF rfl fun a hF=>ns<|wq<|cX st hF (rgc k32 hZ) (xW _ (hT.below st.bel)) rfl fun w2 a st hF=>oV hF (dF hF.o (cA _ false rfl)) rfl fun a hF=>E.nil<|wp_cond_false hF.o<|wp_skip<|E.norm<|wp_seq ?_
 refine E.rga 6 aG hF [11,12,13,14,6,5] [_,_,_,_,kb w2 [iv 0,iv 0,iv 0,iv 0],.ex (iv ny)] [4] ⟨fun _ _ ⟨g,e,_,o⟩=>⟨g,e,o.lt⟩,trivial⟩ (by decide+kernel) rfl rfl rfl ⟨rm 4 rfl,ck st k14 rfl fun _ s=>a7 (Ls _ hny),rb st rJ 3 0 rfl,ck st k15 rfl fun _ s=>a7 (m8 _ hpa hpb hpc hpd),rai bi rfl,(by intro a' w' hF' hb hd;have e12:=tE hd 0 rfl;exact dv0 (aZ e12) rfl rfl rfl),trivial⟩ ?_
 intro a w3 hF bb hall hne
 have s0:=st
 replace st:=st.to bb
 replace hF:=rE hall hF 3 rfl rfl
 obtain⟨_,e6,g6,rfl,ge6,o6⟩:=sS hall 4 6 rfl rfl
 replace st:=st.push o6 (Nat.le_trans s0.bel.size ge6) (s0.ne ge6)
 clear o6
 replace hF:=hF.add e6
 replace hF:=rE hall hF 5 rfl rfl
 clear hall bb hne s0
 refine S.stoI st hF 0 rfl hF.p hF.q bi rfl rfl rfl fun w4 a st hF=>nq<|oM hF 0 rfl rfl fun a hF=>oL hF st 2 0 bi rfl rfl rfl rfl fun a hF=>cX st hF (rgc k33 (aF hF.p hF.o)) (D0 ny pa pb pc pd L0 X0 X9 _ (hT.below st.bel) (by first|assumption|constructor<;>omega) (by omega) (by omega) hL0 hX0 hX9) rfl fun w5 a st hF=>oM hF 0 rfl rfl fun a hF=>oV hF (aM (v:= .agg #[iv ((smV L0+1)/12-1955883044),iv (puM L0 X0),.bool (decide (smV (au L0)=smV L0)),iv (X0%30+1),.bool (decide (X9=X0))]) hF.o rfl) rfl fun a hF=>oV hF (aM (v:= iv 0) hF.p rfl) rfl fun a hF=>S.new st hF 1 rfl bw rfl rfl rfl rfl rfl fun g7 w6 a st hF=>?_
 refine oA hF 1 rfl rfl fun a hF=>ns ?_
 refine E.rg 16 aG hF [21,22,23,24,25,26,27,28,29,30,31,32,33,34,35,36] [_,.ex (.bool true),.ex (.bool true),.ex (.agg #[iv ((smV L0+1)/12-1955883044),iv (puM L0 X0),.bool (decide (smV (au L0)=smV L0)),iv (X0%30+1),.bool (decide (X9=X0))]),.ex (.agg #[iv ((smV L0+1)/12-1955883044),iv (puM L0 X0),.bool (decide (smV (au L0)=smV L0)),iv (X0%30+1),.bool (decide (X9=X0))]),.ex (iv ny),.ex (.agg #[iv pa,iv pb,iv pc,iv pd]),.of (fun w v=>RPl w v (((pa:Int):Rat)/((pb:Int):Rat)) (((pc:Int):Rat)/((pd:Int):Rat)) 2) (fun _ _ _ h hb=>h.below hb),.ex (.agg #[iv ((smV L0+1)/12-1955883044),iv (puM L0 X0),.bool (decide (smV (au L0)=smV L0)),iv (X0%30+1),.bool (decide (X9=X0))]),.ex (.bool true),.ex (.bool true),.ex (.bool true),.ex (.agg #[iv ((smV L0+1)/12-1955883044),iv (puM L0 X0),.bool (decide (smV (au L0)=smV L0)),iv (X0%30+1),.bool (decide (X9=X0))]),.ex (iv ny),.ex (.agg #[iv pa,iv pb,iv pc,iv pd]),.ex (.agg #[iv ((smV L0+1)/12-1955883044),iv (puM L0 X0),.bool (decide (smV (au L0)=smV L0)),iv (X0%30+1),.bool (decide (X9=X0))])] (by decide+kernel) rfl rfl rfl ⟨rm 0 rfl,(by intro a' w' hF' hb hd;have e21:=tE hd 0 rfl;exact dv0 (aq e21 ao aa (aI (aQ (c:=true) (by decide)) (by simp))) rfl rfl rfl),(by intro a' w' hF' hb hd;have e22:=tE hd 0 rfl;exact dv0 (aB e22) rfl rfl rfl),(by intro a' w' hF' hb hd;have e23:=tE hd 0 rfl;exact dv1 (ag rfl rfl e23 rfl) (av (hF'.at 1 rfl) (aX bw ((st.bk 0 rfl).below hb) rfl)) rfl rfl),(by intro a' w' hF' hb hd;have e23:=tE hd 1 rfl;have e24:=tE hd 0 rfl;exact jn (ag rfl rfl e23 rfl) (rk NM (aD e24)) (sr ((smV L0+1)/12-1955883044) (puM L0 X0) (decide (smV (au L0)=smV L0)) (X0%30+1) (decide (X9=X0)) _) (fun _=>rfl) rfl),(by intro a' w' hF' hb hd;have e23:=tE hd 0 rfl;exact dv1 (ag rfl rfl e23 rfl) (aB (hF'.at 8 rfl)) rfl rfl),(by intro a' w' hF' hb hd;have e23:=tE hd 0 rfl;exact dv1 (ag rfl rfl e23 rfl) (av (hF'.at 9 rfl) (aX bi ((st.bk 1 rfl).below hb) rfl)) rfl rfl),(by intro a' w' hF' hb hd;have e23:=tE hd 2 rfl;have e27:=tE hd 0 rfl;exact dc1 (ag rfl rfl e23 rfl) (rk NN (aD e27)) (rL pa pb pc pd _ (by omega) (by omega) (by omega) (by omega) (by omega) (by omega) (by omega) (by omega)) rfl),(by intro a' w' hF' hb hd;have e23:=tE hd 3 rfl;have e26:=tE hd 0 rfl;obtain⟨v28_0,e28,h28_1⟩:=tH hd 1 rfl;exact jn (ag rfl rfl e23 rfl) (rk Oz (aF e26 e28)) (Di ny pa pb pc pd L0 X0 X9 _ _ h28_1 (by first|assumption|constructor<;>omega) (by omega) (by omega) hL0 hX0 hX9) (fun _=>rfl) rfl),(by intro a' w' hF' hb hd;have e23:=tE hd 2 rfl;have e25:=tE hd 0 rfl;have e29:=tE hd 1 rfl;exact dv1 (ag rfl rfl e23 rfl) (aq e25 e29 nT (oe (aK ⟨rfl,rfl,rfl,rfl,rfl⟩))) rfl rfl),(by intro a' w' hF' hb hd;have e23:=tE hd 0 rfl;have e30:=tE hd 1 rfl;exact dv0 (aH e23 e30) rfl rfl rfl),(by intro a' w' hF' hb hd;have e31:=tE hd 0 rfl;exact dv0 (aB e31) rfl rfl rfl),(by intro a' w' hF' hb hd;have e32:=tE hd 0 rfl;exact dv1 (ag rfl rfl e32 rfl) (av (hF'.at 1 rfl) (aX bw ((st.bk 0 rfl).below hb) rfl)) rfl rfl),(by intro a' w' hF' hb hd;have e32:=tE hd 0 rfl;exact dv1 (ag rfl rfl e32 rfl) (aB (hF'.at 8 rfl)) rfl rfl),(by intro a' w' hF' hb hd;have e32:=tE hd 0 rfl;exact dv1 (ag rfl rfl e32 rfl) (av (hF'.at 9 rfl) (aX bi ((st.bk 1 rfl).below hb) rfl)) rfl rfl),(by intro a' w' hF' hb hd;have e32:=tE hd 2 rfl;have e34:=tE hd 0 rfl;have e35:=tE hd 1 rfl;exact jn (ag rfl rfl e32 rfl) (rk ND (aF e34 e35)) (xO ny pa pb pc pd L0 X0 X9 _ (hT.below (aC st.bel hb)) (by first|assumption|constructor<;>omega) (by omega) (by omega) hL0 hX0 hX9) (fun _=>rfl) rfl),trivial⟩ ?_
 intro a w7 hF bb hall
 replace st:=st.to bb
 replace hF:=rE hall hF 11 rfl rfl
 replace hF:=rE hall hF 12 rfl rfl
 replace hF:=rE hall hF 15 rfl rfl
 clear hall bb
 refine og hF (aq hF.p hF.o vk (vn (aK ⟨rfl,rfl,rfl,rfl,rfl⟩))) 2 rfl rfl rfl fun a hF=>oV hF (aH (hF.at 3 rfl) hF.o) rfl fun a hF=>oE hF 0 rfl rfl fun a hF=>nr ?_
 have bel:=st.bel
 refine rt Tryz.results8 hF 0 rfl ?_
 exact⟨rfl,bel⟩
end Go.Proofs.YtddiipaomejcfaaGreatDoor
