import Derived.Test.YtddiipaomejcfaaGreatDoorKA35
namespace Go.Proofs.YtddiipaomejcfaaGreatDoor
open Go.RowKit
set_option maxRecDepth 100000
set_option linter.unusedVariables false
set_option maxHeartbeats 8000000
theorem AZ (z20:Int) (w:World):(Instr.build 61 #[(2,iv z20)]).run Tryz.prog w= .ok (.agg #[iv 0,iv 0,iv z20,iv 0]) w:=by
 have hz:=cL nY w
 have h_int:∀w,(sizeOf 3).run Tryz.prog w= .ok 1 w:=fun w=>bh cT w
 have h_i64:∀w,(sizeOf 2).run Tryz.prog w= .ok 1 w:=fun w=>bh cw w
 simp only [Instr.build,Sem.run_bind,hz,Result.andThen_ok,run_underlying Tryz.underlying61,List.mapM_toArray,List.mapM_cons,List.mapM_nil,Sem.run_map,h_i64,h_int,Sem.run_pure]
 rfl
theorem kD (z0 z1 z2 z3 d:Int) (w:World) (h0:0<=z2) (h1:z2<=11) (h2:0<=z3) (h3:z3<=11):
 CV 39 #[.agg #[iv z0,iv z1,iv z2,iv z3],iv d] w (iv (puF d z2 z3)):=by
 refine gs2 (nt:=15) Tryz.func39 rfl rfl rfl fun a st hF=>wq<|bx st hF 0 rfl rfl fun g2 w1 a st hF=>?_
 refine oC hF rfl fun a hF=>ns<|wq<|oM hF 3 rfl rfl fun a hF=>?_
 by_cases hc2:d<=15
 ·first
  |(exfalso;omega)
  |(refine oT hF 0 (bp (c:=true) (aA hc2)) rfl rfl fun a hF=>?_
    refine E.nil<|wp_cond_true hF.o<|wq<|oL hF st 3 0 bw rfl rfl rfl rfl fun a hF=>cX st hF (rgc k50 (aL hF.o)) (dM z0 z1 z2 z3 _ (by omega) (by omega)) rfl fun w3 a st hF=>?_
    refine oE hF 0 rfl rfl fun a hF=>nr ?_
    have bel:=st.bel
    refine rt Tryz.results39 hF 0 rfl ?_
    refine⟨bS ?_,bel⟩
    have hpf:=j4 d z2 z3
    omega)
 ·first
  |(exfalso;omega)
  |(refine oT hF 0 (bp (c:=false) (aK hc2)) rfl rfl fun a hF=>?_
    refine E.nil<|wp_cond_false hF.o<|wp_skip<|E.norm<|wq<|oV hF (az (hF.at 3 rfl) (nf (p:=3) rfl)) rfl fun a hF=>oV hF (aw hF.o (bj (v:= iv z3) (st.bk 0 rfl) rfl)) rfl fun a hF=>oV hF (bH (jx hF.o) (AZ _ _)) rfl fun a hF=>S.new st hF 0 rfl bw rfl rfl rfl rfl rfl fun g5 w4 a st hF=>nq<|oL hF st 0 0 bw rfl rfl rfl rfl fun a hF=>?_
    refine cX st hF (rgc k50 (aL hF.o)) (dM 0 0 z3 0 _ (by omega) (by omega)) rfl fun w5 a st hF=>?_
    refine oE hF 0 rfl rfl fun a hF=>nr ?_
    have bel:=st.bel
    refine rt Tryz.results39 hF 0 rfl ?_
    refine⟨bS ?_,bel⟩
    have hpf:=j4 d z2 z3
    omega)
theorem tj (z0 z1 z2 z3:Int) (d:Int) (w:World) (hT:a8 w) (h2:0<=z2) (h3:z2<=11) (hb0: -90000000<=z1) (hb1:z1<=90000000) (hc:aY z1=true) (hz:z3=smV z1%12):
 CV 39 #[.agg #[iv z0,iv z1,iv z2,iv z3],iv d] w (iv (puF d z2 z3)):=
 kD z0 z1 z2 z3 d w h2 h3 (by omega) (by omega)
theorem pH (n xa xb xc xd L X Y:Int) (w:World) (hT:a8 w) (hok:bz xa xb xc xd) (hn0: -3800000<=n) (hn1:n<=3800000) (hL:amL n xa xb xc xd=L) (hX:amX n xa xb xc xd=X) (hY:amX (n-1) xa xb xc xd=Y):
 CV 70 #[.agg #[iv ((smV L+1)/12-1955883044),iv ((smV L+1)%12+1),.bool (decide (smV (ag L)=smV L)),iv (X%30+1),.bool (decide (Y=X))],iv n,.agg #[iv xa,iv xb,iv xc,iv xd]] w (.agg #[iv ((smV L+1)/12-1955883044),iv (puM L X),.bool (decide (smV (ag L)=smV L)),iv (X%30+1),.bool (decide (Y=X))]):=by
 have hnr:=jV hok n
 rw[hL] at hnr
 refine gs3 (nt:=19) Tryz.func70 rfl rfl rfl fun a st hF=>wq<|bx st hF 0 rfl rfl fun g3 w1 a st hF=>bx st hF 3 rfl rfl fun g5 w2 a st hF=>S.alloc st hF aG rfl rfl fun g6 w3 a st hF=>ns<|wq<|oV hF (az hF.q (cS (p:=3) rfl)) rfl fun a hF=>oV hF (aw hF.o (bj (v:= iv (X%30+1)) (st.bk 2 rfl) rfl)) rfl fun a hF=>?_
 by_cases hc4:15<X%30+1
 ·refine oT hF 0 (cI (c:=true) (aA hc4)) rfl rfl fun a hF=>E.nil<|wp_cond_true hF.o ?_
  refine E.rg 8 aP hF [10,11,12,13,14,15,16,17] [_,_,_,_,_,_,_,_] (by decide+kernel) rfl rfl rfl ⟨rm 7 rfl,rb st aM 4 1 rfl,ck st k38 rfl fun _ s=>aN (fX n xa xb xc xd _ (hT.below s.bel) (by first|assumption|constructor<;>omega) (by omega) (by omega)) (iX (by first|assumption|constructor<;>omega) (by omega) (by omega)),ck st k37 rfl fun _ s _ x12=>a9 (oB _ (hT.below s.bel) x12.1 x12.2 (by omega) (by have:=l6 hok n;omega) (by have:=l6 hok n;omega) hL),rfd 5 (fun _=>cS (p:=3) rfl) rfl,rld rfl fun _ hb=>(bj (v:= iv (X%30+1)) ((st.bk 2 rfl).below hb) rfl),ck st k39 rfl fun _ s=>a9 (kD L (ag L) (smV L%12) (smV (ag L)%12) (X%30+1) _ (by omega) (by omega) (by omega) (by omega)),rfd 5 (fun _=>ce (p:=1) rfl) rfl,trivial⟩ ?_
  intro a w5 hF bb hall
  replace st:=st.to bb
  replace hF:=rE hall hF 6 rfl rfl
  have hpf:=j4 (X%30+1) (smV L%12) (smV (ag L)%12)
  replace hF:=rE hall hF 7 rfl rfl
  clear hall bb
  refine S.stooI (o:=1) (vs:=[iv (puF (X%30+1) (smV L%12) (smV (ag L)%12))]) (ws:=[iv ((smV L+1)/12-1955883044),iv (puF (X%30+1) (smV L%12) (smV (ag L)%12)),.bool (decide (smV (ag L)=smV L)),iv (X%30+1),.bool (decide (Y=X))]) st hF 2 rfl hF.o hF.p rfl cT rfl rfl rfl rfl fun w6 a st hF=>?_
  refine nq<|oL hF st 7 2 aG rfl rfl rfl rfl fun a hF=>S.stoI st hF 0 rfl (hF.at 6 rfl) hF.o aG rfl rfl rfl fun w7 a st hF=>nr<|rs Tryz.results70 st hF 6 0 aG rfl rfl rfl ?_
  refine⟨vh rfl ?_ rfl rfl rfl,st.bel⟩
  unfold puM
  rw[if_pos (by omega)]
  omega
 ·refine oT hF 0 (cI (c:=false) (aK hc4)) rfl rfl fun a hF=>E.nil<|wp_cond_false hF.o<|wp_skip<|E.norm<|wq<|oL hF st 5 2 aG rfl rfl rfl rfl fun a hF=>S.stoI st hF 0 rfl (hF.at 4 rfl) hF.o aG rfl rfl rfl fun w8 a st hF=>nr<|rs Tryz.results70 st hF 4 0 aG rfl rfl rfl ?_
  refine⟨vh rfl ?_ rfl rfl rfl,st.bel⟩
  unfold puM
  rw[if_neg (by omega)]
theorem ie (n xa xb xc xd L X Y:Int) (w:World) (hT:a8 w) (hok:bz xa xb xc xd) (hn0: -3800000<=n) (hn1:n<=3800000) (hL:amL n xa xb xc xd=L) (hX:amX n xa xb xc xd=X) (hY:amX (n-1) xa xb xc xd=Y):
 CV 35 #[iv n,.agg #[iv xa,iv xb,iv xc,iv xd]] w (.agg #[iv ((smV L+1)/12-1955883044),iv (puM L X),.bool (decide (smV (ag L)=smV L)),iv (X%30+1),.bool (decide (Y=X))]):=by
 refine gs2 (nt:=11) Tryz.func35 rfl rfl rfl fun a st hF=>wq<|bx st hF 1 rfl rfl fun g3 w1 a st hF=>S.alloc st hF aG rfl rfl fun g4 w2 a st hF=>ns ?_
 refine E.rg 6 aP hF [5,6,7,8,9,10] [_,_,_,_,_,_] (by decide+kernel) rfl rfl rfl ⟨rm 2 rfl,rb st aM 1 1 rfl,ck st k22 rfl fun _ s=>a9 (fT n xa xb xc xd L X Y _ (hT.below s.bel) (by first|assumption|constructor<;>omega) (by omega) (by omega) hL hX hY),rm 2 rfl,rb st aM 1 1 rfl,ck st k70 rfl fun _ s=>a9 (pH n xa xb xc xd L X Y _ (hT.below s.bel) hok (by omega) (by omega) hL hX hY),trivial⟩ ?_
 intro a w3 hF bb hall
 replace st:=st.to bb
 replace hF:=rE hall hF 5 rfl rfl
 clear hall bb
 refine S.stoI st hF 0 rfl hF.p hF.o aG rfl rfl rfl fun w4 a st hF=>nr<|rs Tryz.results35 st hF 1 0 aG rfl rfl rfl ?_
 exact⟨rfl,st.bel⟩
theorem yH (n xa xb xc xd:Int) (w:World) (hE:plE xa xb xc xd≠0):
 CV 33 #[iv n,.agg #[iv xa,iv xb,iv xc,iv xd]] w (.tuple #[.agg #[iv 0,iv 0,.bool false,iv 0,.bool false],iv (plE xa xb xc xd)]):=by
 refine gs2 (nt:=22) Tryz.func33 rfl rfl rfl fun a st hF=>wq<|bx st hF 1 rfl rfl fun g3 w1 a st hF=>S.alloc st hF aG rfl rfl fun g4 w2 a st hF=>?_
 refine oC hF rfl fun a hF=>nq<|oM hF 3 rfl rfl fun a hF=>oL hF st 3 1 aM rfl rfl rfl rfl fun a hF=>cX st hF (rgc k16 (aH hF.p hF.o)) (ye n xa xb xc xd _ hE) rfl fun w3 a st hF=>oM hF 0 rfl rfl fun a hF=>oV hF (av (v:= .agg #[iv 0,iv 0,.bool false,iv 0,.bool false]) hF.o rfl) rfl fun a hF=>oV hF (av (v:= iv (plE xa xb xc xd)) hF.p rfl) rfl fun a hF=>S.new st hF 1 rfl aG rfl rfl rfl rfl rfl fun g6 w4 a st hF=>?_
 refine oA hF 1 rfl rfl fun a hF=>ns<|wq<|oM hF 0 rfl rfl fun a hF=>oT hF 0 (bn (c:=true) (aA hE)) rfl rfl fun a hF=>E.nil<|wp_cond_true hF.o<|wq<|oV hF (bH (by simp) (uP _)) rfl fun a hF=>oM hF 3 rfl rfl fun a hF=>S.stoI st hF 1 rfl (hF.at 13 rfl) hF.p aG rfl rfl rfl fun w5 a st hF=>?_
 refine oE hF 0 rfl rfl fun a hF=>nr ?_
 have bel:=st.bel
 refine bodyPost_ret (gW Tryz.results33 (hF.at 13 rfl) (aZ aG (st.bk 1 rfl) rfl) hF.o) hF.dfr ?_
 exact⟨rfl,bel⟩
theorem gS (n xa xb xc xd L X Y:Int) (w:World) (hT:a8 w) (hok:bz xa xb xc xd) (hn0: -3000000<=n) (hn1:n<=3000000) (hL:amL n xa xb xc xd=L) (hX:amX n xa xb xc xd=X) (hY:amX (n-1) xa xb xc xd=Y):
 CV 33 #[iv n,.agg #[iv xa,iv xb,iv xc,iv xd]] w (.tuple #[.agg #[iv ((smV L+1)/12-1955883044),iv (puM L X),.bool (decide (smV (ag L)=smV L)),iv (X%30+1),.bool (decide (Y=X))],iv 0]):=by
 refine gs2 (nt:=22) Tryz.func33 rfl rfl rfl fun a st hF=>wq<|bx st hF 1 rfl rfl fun g3 w1 a st hF=>S.alloc st hF aG rfl rfl fun g4 w2 a st hF=>?_
 refine oC hF rfl fun a hF=>nq<|oM hF 3 rfl rfl fun a hF=>oL hF st 3 1 aM rfl rfl rfl rfl fun a hF=>cX st hF (rgc k16 (aH hF.p hF.o)) (fh n xa xb xc xd L X Y _ (hT.below st.bel) (by first|assumption|constructor<;>omega) (by omega) (by omega) hL hX hY) rfl fun w3 a st hF=>oM hF 0 rfl rfl fun a hF=>oV hF (av (v:= .agg #[iv ((smV L+1)/12-1955883044),iv ((smV L+1)%12+1),.bool (decide (smV (ag L)=smV L)),iv (X%30+1),.bool (decide (Y=X))]) hF.o rfl) rfl fun a hF=>oV hF (av (v:= iv 0) hF.p rfl) rfl fun a hF=>S.new st hF 1 rfl aG rfl rfl rfl rfl rfl fun g6 w4 a st hF=>?_
 refine oA hF 1 rfl rfl fun a hF=>ns<|wq<|oM hF 0 rfl rfl fun a hF=>oT hF 0 (bn (c:=false) (by decide)) rfl rfl fun a hF=>E.nil<|wp_cond_false hF.o<|wp_skip<|E.norm<|wq<|oL hF st 3 0 aG rfl rfl rfl rfl fun a hF=>oM hF 14 rfl rfl fun a hF=>oL hF st 14 2 aM rfl rfl rfl rfl fun a hF=>?_
 refine cX st hF (rgc k70 (sM hF.q hF.p hF.o)) (pH n xa xb xc xd L X Y _ (hT.below st.bel) hok (by omega) (by omega) hL hX hY) rfl fun w5 a st hF=>S.stoI st hF 1 rfl (hF.at 15 rfl) hF.o aG rfl rfl rfl fun w6 a st hF=>?_
 refine oS hF (a5 aq) rfl fun a hF=>nr ?_
 have bel:=st.bel
 refine bodyPost_ret (gW Tryz.results33 (hF.at 15 rfl) (aZ aG (st.bk 1 rfl) rfl) hF.o) hF.dfr ?_
 exact⟨rfl,bel⟩
end Go.Proofs.YtddiipaomejcfaaGreatDoor
