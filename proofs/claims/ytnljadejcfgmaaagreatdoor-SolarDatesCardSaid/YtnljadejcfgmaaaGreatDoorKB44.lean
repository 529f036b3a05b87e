import Derived.Test.YtnljadejcfgmaaaGreatDoorKB43
namespace Go.Proofs.YtnljadejcfgmaaaGreatDoor
open Go.RowKit
set_option maxRecDepth 100000
set_option linter.unusedVariables false
set_option maxHeartbeats 8000000
theorem solarDays_walk (r n wa wb wc wd:Int) (w:World) (hT:bV w):
 Calls Tryz.prog 4 #[.int .i64 r,.int .i64 n,.agg #[.int .i64 wa,.int .i64 wb,.int .i64 wc,.int .i64 wd]] w (aR w (.bool true)):=by
 obtain⟨pa,hpa⟩:∃z:Int,gA 60 120 wa wb=z:=⟨_,rfl⟩
 obtain⟨pb,hpb⟩:∃z:Int,gB wb=z:=⟨_,rfl⟩
 obtain⟨pc,hpc⟩:∃z:Int,gA 180 360 wc wd=z:=⟨_,rfl⟩
 obtain⟨pd,hpd⟩:∃z:Int,gB wd=z:=⟨_,rfl⟩
 have hok:cj pa pb pc pd:=by rw[←hpa,←hpb,←hpc,←hpd];exact nc wa wb wc wd
 have hp1:=hok.b0
 have hp2:=hok.b1
 have hp3:=hok.a0
 have hp4:=hok.a1
 have hp5:=hok.d0
 have hp6:=hok.d1
 have hp7:=hok.c0
 have hp8:=hok.c1
 obtain⟨er,her⟩:∃z:Int,r%4=z:=⟨_,rfl⟩
 have her0:0≤er∧er≤3:=by omega
 obtain⟨ny,hny⟩:∃z:Int,inD n=z:=⟨_,rfl⟩
 have hin0:=xT n
 rw[hny] at hin0
 have hbk:=Da er (n:=ny) hok (by omega) (by omega)
 have hk3:=Gm er (n:=ny) hok (by omega) (by omega)
 have hfs:=eE (eS er hok) ny
 have st:=St.start w
 refine go3 (nt:=56) Tryz.func4 rfl rfl rfl fun a hF=>?_
 refine wq ?_
 refine bx st hF 2 rfl rfl fun g5 w1 a st hF=>?_
 refine oC hF rfl fun a hF=>?_
 refine ns ?_
 refine wq ?_
 refine cX st hF (rgc k13 jo) (fH _ (hT.below st.bel)) rfl fun w2 a st hF=>?_
 refine oV hF (fi (hF.at 0 rfl) (eK _ false rfl)) rfl fun a hF=>?_
 refine E.nil ?_
 refine wp_cond_false (hF.at 0 rfl) ?_
 refine wp_skip ?_
 refine E.norm ?_
 refine wp_seq ?_
 have hv0:=hF.at 4 rfl
 replace hF:=Fr.pick (L':=[(14,.bool false),(13,.bool true),(6,.bool false),(5,.pointer (some ⟨g5,0,none⟩)),(1,.int .i64 n),(2,.agg #[.int .i64 wa,.int .i64 wb,.int .i64 wc,.int .i64 wd])]) hF [0,1,2,3,5,6] rfl
 refine E.rgap 9 7 0 aF hF hv0 [15,16,17,18,19,20,8,0,7] [_,.ex (.int .i64 er),_,_,_,_,kb w2 [.int .i64 0,.int .i64 0,.int .i64 0,.int .i64 0],.ex (.int .i64 er),.ex (.int .i64 ny)] [6] ⟨fun _ _ ⟨g,e,_,o⟩=>⟨g,e,o.lt⟩,trivial⟩ (by decide+kernel) rfl rfl rfl rfl ⟨rm 0 rfl,(by intro a' w' hF' hb hd;have e15:=tE hd 0 rfl;exact dv0 (aq e15 ao ab (Ih her)) rfl rfl rfl),rm 4 rfl,ck st k14 rfl fun _ s=>bA (zQ _ hny),rb st lk 3 0 rfl,ck st k15 rfl fun _ s=>bA (iz _ hpa hpb hpc hpd),rai be rfl,(by intro a' w' hF' hb hd;have e16:=tE hd 0 rfl;exact dv0 (aO e16) rfl rfl rfl),(by intro a' w' hF' hb hd;have e18:=tE hd 0 rfl;exact dv0 (aO e18) rfl rfl rfl),trivial⟩ ?_
 intro a w3 hF bb hall hne
 have s0:=st
 replace st:=st.to bb
 replace hF:=rE hall hF 5 rfl rfl
 obtain⟨_,e8,g8,rfl,ge8,o8⟩:=sS hall 6 8 rfl rfl
 replace st:=st.push o8 (Nat.le_trans s0.bel.size ge8) (s0.ne ge8)
 clear o8
 replace hF:=hF.add e8
 replace hF:=rE hall hF 7 rfl rfl
 replace hF:=rE hall hF 8 rfl rfl
 clear hall bb hne s0 hv0
 refine S.stoI st hF 0 rfl (hF.at 2 rfl) (hF.at 3 rfl) be rfl rfl rfl fun w4 a st hF=>?_
 refine nq ?_
 refine oM hF 1 rfl rfl fun a hF=>?_
 refine oM hF 1 rfl rfl fun a hF=>?_
 refine oL hF st 4 0 be rfl rfl rfl rfl fun a hF=>?_
 refine cX st hF (rgc k24 (eB (hF.at 2 rfl) (hF.at 1 rfl) (hF.at 0 rfl))) (tC er ny pa pb pc pd _ (hT.below st.bel) (by first|assumption|exact⟨by omega,by omega,by omega,by omega,by omega,by omega,by omega,by omega⟩) (by omega) (by omega) (by omega) (by omega)) rfl fun w5 a st hF=>?_
 refine oM hF 0 rfl rfl fun a hF=>?_
 refine oV hF (aW (v:= .agg #[.int .i64 (kaV (aY er ny pa pb pc pd)/12-1955880000-3179),.int .i64 (kaV (aY er ny pa pb pc pd)%12+1),.int .i64 (ny-fsD (bf er pa pb pc pd) ny+1)]) (hF.at 0 rfl) rfl) rfl fun a hF=>?_
 refine oV hF (aW (v:= .int .i64 0) (hF.at 1 rfl) rfl) rfl fun a hF=>?_
 refine S.new st hF 1 rfl cL rfl rfl rfl rfl rfl fun g9 w6 a st hF=>?_
 refine oA hF 1 rfl rfl fun a hF=>?_
 refine nq ?_
 refine oM hF 10 rfl rfl fun a hF=>?_
 refine oL hF st 2 0 cL rfl rfl rfl rfl fun a hF=>?_
 refine oL hF st 13 1 be rfl rfl rfl rfl fun a hF=>?_
 refine cX st hF (rgc k25 (eB (hF.at 2 rfl) (hF.at 1 rfl) (hF.at 0 rfl))) (wG er (kaV (aY er ny pa pb pc pd)/12-1955880000-3179) (kaV (aY er ny pa pb pc pd)%12+1) (ny-fsD (bf er pa pb pc pd) ny+1) pa pb pc pd ny 0 _ (hT.below st.bel) (by first|assumption|exact⟨by omega,by omega,by omega,by omega,by omega,by omega,by omega,by omega⟩) (by omega) (by omega) (by omega) (by omega) (by omega) (by omega) (by omega) (by omega) hbk.1 hbk.2) rfl fun w7 a st hF=>?_
 refine oM hF 0 rfl rfl fun a hF=>?_
 refine oV hF (aW (v:= .int .i64 ny) (hF.at 0 rfl) rfl) rfl fun a hF=>?_
 refine oV hF (aW (v:= .int .i64 0) (hF.at 1 rfl) rfl) rfl fun a hF=>?_
 refine oA hF 1 rfl rfl fun a hF=>?_
 refine oA hF 1 rfl rfl fun a hF=>?_
 refine ns ?_
 refine E.rg 19 aF hF [35,36,37,38,39,40,41,42,43,44,45,46,47,48,49,50,51,52,53] [_,.ex (.bool true),.ex (.bool true),.ex (.agg #[.int .i64 (kaV (aY er ny pa pb pc pd)/12-1955880000-3179),.int .i64 (kaV (aY er ny pa pb pc pd)%12+1),.int .i64 (ny-fsD (bf er pa pb pc pd) ny+1)]),.ex (.agg #[.int .i64 (kaV (aY er ny pa pb pc pd)/12-1955880000-3179),.int .i64 (kaV (aY er ny pa pb pc pd)%12+1),.int .i64 (ny-fsD (bf er pa pb pc pd) ny+1)]),.ex (.int .i64 er),.ex (.int .i64 ny),.ex (.agg #[.int .i64 pa,.int .i64 pb,.int .i64 pc,.int .i64 pd]),.of (fun w v=>RPl w v (((pa:Int):Rat)/((pb:Int):Rat)) (((pc:Int):Rat)/((pd:Int):Rat)) 2) (fun _ _ _ h hb=>h.below hb),.ex (.agg #[.int .i64 (kaV (aY er ny pa pb pc pd)/12-1955880000-3179),.int .i64 (kaV (aY er ny pa pb pc pd)%12+1),.int .i64 (ny-fsD (bf er pa pb pc pd) ny+1)]),.ex (.bool true),.ex (.bool true),.ex (.bool true),.ex (.int .i64 0),.ex (.bool true),.ex (.bool true),.ex (.bool true),.ex (.int .i64 ny),.ex (.int .i64 ny)] (by decide+kernel) rfl rfl rfl ⟨rm 9 rfl,(by intro a' w' hF' hb hd;have e35:=tE hd 0 rfl;exact dv0 (aq e35 ao ab (aw (aX (c:=true) (by decide)) (by simp))) rfl rfl rfl),(by intro a' w' hF' hb hd;have e36:=tE hd 0 rfl;exact dv0 (aP e36) rfl rfl rfl),(by intro a' w' hF' hb hd;have e37:=tE hd 0 rfl;exact dv1 (aa rfl rfl e37 rfl) (av (hF'.at 10 rfl) (cD cL ((st.bk 0 rfl).below hb) rfl)) rfl rfl),(by intro a' w' hF' hb hd;have e37:=tE hd 1 rfl;have e38:=tE hd 0 rfl;exact j0 (aa rfl rfl e37 rfl) (rk I2 (aI e38)) (po (kaV (aY er ny pa pb pc pd)/12-1955880000-3179) (kaV (aY er ny pa pb pc pd)%12+1) (ny-fsD (bf er pa pb pc pd) ny+1) _) (fun _=>rfl) rfl),(by intro a' w' hF' hb hd;have e37:=tE hd 0 rfl;exact dv1 (aa rfl rfl e37 rfl) (aP (hF'.at 19 rfl)) rfl rfl),(by intro a' w' hF' hb hd;have e37:=tE hd 0 rfl;exact dv1 (aa rfl rfl e37 rfl) (aP (hF'.at 18 rfl)) rfl rfl),(by intro a' w' hF' hb hd;have e37:=tE hd 0 rfl;exact dv1 (aa rfl rfl e37 rfl) (av (hF'.at 20 rfl) (cD be ((st.bk 1 rfl).below hb) rfl)) rfl rfl),(by intro a' w' hF' hb hd;have e37:=tE hd 2 rfl;have e42:=tE hd 0 rfl;exact dc1 (aa rfl rfl e37 rfl) (rk Ij (aI e42)) (jt pa pb pc pd _ (by omega) (by omega) (by omega) (by omega) (by omega) (by omega) (by omega) (by omega)) rfl),(by intro a' w' hF' hb hd;have e37:=tE hd 4 rfl;have e40:=tE hd 0 rfl;have e41:=tE hd 1 rfl;obtain⟨v43_0,e43,h43_1⟩:=tH hd 2 rfl;exact j0 (aa rfl rfl e37 rfl) (rk FA (eB e40 e41 e43)) (qF er ny pa pb pc pd _ _ h43_1 (by first|assumption|exact⟨by omega,by omega,by omega,by omega,by omega,by omega,by omega,by omega⟩) (by omega) (by omega)) (fun _=>rfl) rfl),(by intro a' w' hF' hb hd;have e37:=tE hd 2 rfl;have e39:=tE hd 0 rfl;have e44:=tE hd 1 rfl;exact dv1 (aa rfl rfl e37 rfl) (aq e39 e44 te (EX (aU (by simp)))) rfl rfl),(by intro a' w' hF' hb hd;have e37:=tE hd 0 rfl;have e45:=tE hd 1 rfl;exact dv0 (aN e37 e45) rfl rfl rfl),(by intro a' w' hF' hb hd;have e46:=tE hd 0 rfl;exact dv0 (aP e46) rfl rfl rfl),(by intro a' w' hF' hb hd;have e47:=tE hd 0 rfl;exact dv1 (aa rfl rfl e47 rfl) (aP (hF'.at 0 rfl)) rfl rfl),(by intro a' w' hF' hb hd;have e47:=tE hd 1 rfl;have e48:=tE hd 0 rfl;exact dv1 (aa rfl rfl e47 rfl) (aq e48 ao ab (aw (aX (c:=true) (by decide)) (by simp))) rfl rfl),(by intro a' w' hF' hb hd;have e47:=tE hd 0 rfl;have e49:=tE hd 1 rfl;exact dv0 (aN e47 e49) rfl rfl rfl),(by intro a' w' hF' hb hd;have e50:=tE hd 0 rfl;exact dv0 (aP e50) rfl rfl rfl),(by intro a' w' hF' hb hd;have e51:=tE hd 0 rfl;exact dv1 (aa rfl rfl e51 rfl) (aP (hF'.at 1 rfl)) rfl rfl),(by intro a' w' hF' hb hd;have e51:=tE hd 0 rfl;exact dv1 (aa rfl rfl e51 rfl) (aP (hF'.at 18 rfl)) rfl rfl),trivial⟩ ?_
 intro a w8 hF bb hall
 replace st:=st.to bb
 replace hF:=rE hall hF 16 rfl rfl
 replace hF:=rE hall hF 17 rfl rfl
 replace hF:=rE hall hF 18 rfl rfl
 clear hall bb
 refine E.opvg hF (aq (hF.at 1 rfl) (hF.at 0 rfl) ab (aw (aX (c:=true) (by simp)) (by simp))) (aa rfl rfl (hF.at 2 rfl) rfl) rfl rfl rfl fun a hF=>?_
 refine oV hF (aN (hF.at 3 rfl) (hF.at 0 rfl)) rfl fun a hF=>?_
 refine oE hF 0 rfl rfl fun a hF=>?_
 refine nr ?_
 have bel:=st.bel
 refine rt Tryz.results4 hF 0 rfl ?_
 exact⟨rfl,bel⟩
theorem solarDates_walk (r y m d wa wb wc wd:Int) (w:World) (hT:bV w):
 Calls Tryz.prog 5 #[.int .i64 r,.agg #[.int .i64 y,.int .i64 m,.int .i64 d],.agg #[.int .i64 wa,.int .i64 wb,.int .i64 wc,.int .i64 wd]] w (aR w (.bool true)):=by
 obtain⟨pa,hpa⟩:∃z:Int,gA 60 120 wa wb=z:=⟨_,rfl⟩
 obtain⟨pb,hpb⟩:∃z:Int,gB wb=z:=⟨_,rfl⟩
 obtain⟨pc,hpc⟩:∃z:Int,gA 180 360 wc wd=z:=⟨_,rfl⟩
 obtain⟨pd,hpd⟩:∃z:Int,gB wd=z:=⟨_,rfl⟩
 have hok:cj pa pb pc pd:=by rw[←hpa,←hpb,←hpc,←hpd];exact nc wa wb wc wd
 by_cases hr:0≤r∧r≤3
 ·have hck:ckE r pa pb pc pd=0:=ss hr.1 hr.2 hok
  by_cases hA:1≤m∧m≤12∧1≤d∧d≤32
  ·by_cases hY: -9000≤y∧y≤9000
   ·have hp1:=hok.b0
    have hp2:=hok.b1
    have hp3:=hok.a0
    have hp4:=hok.a1
    have hp5:=hok.d0
    have hp6:=hok.d1
    have hp7:=hok.c0
    have hp8:=hok.c1
    have st:=St.start w
    refine go3 (nt:=93) Tryz.func5 rfl rfl rfl fun a hF=>?_
    refine wq ?_
    refine bx st hF 1 rfl rfl fun g4 w1 a st hF=>?_
    refine bx st hF 3 rfl rfl fun g5 w2 a st hF=>?_
    refine oC hF rfl fun a hF=>?_
    refine ns ?_
    refine wq ?_
    refine cX st hF (rgc k13 jo) (fH _ (hT.below st.bel)) rfl fun w3 a st hF=>?_
    refine oV hF (fi (hF.at 0 rfl) (eK _ false rfl)) rfl fun a hF=>?_
    refine E.nil ?_
    refine wp_cond_false (hF.at 0 rfl) ?_
    refine wp_skip ?_
    refine E.norm ?_
    refine wq ?_
    refine oL hF st 3 0 lk rfl rfl rfl rfl fun a hF=>?_
    refine cX st hF (rgc k15 (aI (hF.at 0 rfl))) (iz _ hpa hpb hpc hpd) rfl fun w4 a st hF=>?_
    refine S.new st hF 0 rfl be rfl rfl rfl rfl rfl fun g7 w5 a st hF=>?_
    refine nq ?_
    refine oM hF 8 rfl rfl fun a hF=>?_
    refine oL hF st 8 2 cL rfl rfl rfl rfl fun a hF=>?_
    refine oL hF st 2 0 be rfl rfl rfl rfl fun a hF=>?_
    refine cX st hF (rgc k25 (eB (hF.at 2 rfl) (hF.at 1 rfl) (hF.at 0 rfl))) (rc r y m d pa pb pc pd _ (hT.below st.bel) (by first|assumption|exact⟨by omega,by omega,by omega,by omega,by omega,by omega,by omega,by omega⟩) (by omega) (by omega) (by omega) (by omega) (by omega) (by omega) (by omega) (by omega)) rfl fun w6 a st hF=>?_
    refine oM hF 0 rfl rfl fun a hF=>?_
    refine oV hF (aW (v:= .int .i64 (soN (bf r pa pb pc pd) y m d)) (hF.at 0 rfl) rfl) rfl fun a hF=>?_
    refine oV hF (aW (v:= .int .i64 (soE (bf r pa pb pc pd) y m d)) (hF.at 1 rfl) rfl) rfl fun a hF=>?_
    refine oA hF 1 rfl rfl fun a hF=>?_
    refine oA hF 1 rfl rfl fun a hF=>?_
    refine ns ?_
    refine wp_block ?_
    refine wq ?_
    refine oM hF 17 rfl rfl fun a hF=>?_
    refine oV hF (aq (hF.at 0 rfl) ao ab (aw (a6 (c:=false) (aK (by omega))) (by simp))) rfl fun a hF=>?_
    refine oM hF 0 rfl rfl fun a hF=>?_
    refine E.opvg hF (aP (hF.at 20 rfl)) (aa rfl rfl (hF.at 0 rfl) rfl) rfl rfl rfl fun a hF=>?_
    refine E.opvg hF (aq (hF.at 0 rfl) ao ab (aw (bS (c:=false) (aK (by omega))) (by simp))) (aa rfl rfl (hF.at 1 rfl) rfl) rfl rfl rfl fun a hF=>?_
    refine oV hF (aQ (hF.at 2 rfl) (hF.at 0 rfl)) rfl fun a hF=>?_
    refine oA hF 0 rfl rfl fun a hF=>?_
    refine E.nil ?_
    refine wp_cond_false (hF.at 0 rfl) ?_
    refine wq ?_
    refine oV hF (aA (hF.at 23 rfl) (dz (p:=1) rfl)) rfl fun a hF=>?_
    refine oV hF (av (hF.at 0 rfl) (bG (v:= .int .i64 m) (st.bk 2 rfl) rfl)) rfl fun a hF=>?_
    refine oV hF (aq (hF.at 0 rfl) ao ab (aw (a6 (c:=false) (aK (by omega))) (by simp))) rfl fun a hF=>?_
    refine oM hF 0 rfl rfl fun a hF=>?_
    refine E.opvg hF (aA (hF.at 27 rfl) (dz (p:=1) rfl)) (aa rfl rfl (hF.at 0 rfl) rfl) rfl rfl rfl fun a hF=>?_
    refine E.opvg hF (av (hF.at 0 rfl) (bG (v:= .int .i64 m) (st.bk 2 rfl) rfl)) (aa rfl rfl (hF.at 1 rfl) rfl) rfl rfl rfl fun a hF=>?_
    refine E.opvg hF (aq (hF.at 0 rfl) ao ab (aw (bS (c:=false) (aK (by omega))) (by simp))) (aa rfl rfl (hF.at 2 rfl) rfl) rfl rfl rfl fun a hF=>?_
    refine oV hF (aQ (hF.at 3 rfl) (hF.at 0 rfl)) rfl fun a hF=>?_
    refine oM hF 0 rfl rfl fun a hF=>?_
    refine E.opvg hF (aA (hF.at 32 rfl) (di (p:=2) rfl)) (aa rfl rfl (hF.at 0 rfl) rfl) rfl rfl rfl fun a hF=>?_
    refine E.opvg hF (av (hF.at 0 rfl) (bG (v:= .int .i64 d) (st.bk 2 rfl) rfl)) (aa rfl rfl (hF.at 1 rfl) rfl) rfl rfl rfl fun a hF=>?_
    refine E.opvg hF (aq (hF.at 0 rfl) ao ab (aw (a6 (c:=false) (aK (by omega))) (by simp))) (aa rfl rfl (hF.at 2 rfl) rfl) rfl rfl rfl fun a hF=>?_
    refine oV hF (aQ (hF.at 3 rfl) (hF.at 0 rfl)) rfl fun a hF=>?_
    refine oM hF 0 rfl rfl fun a hF=>?_
    refine E.opvg hF (aA (hF.at 37 rfl) (di (p:=2) rfl)) (aa rfl rfl (hF.at 0 rfl) rfl) rfl rfl rfl fun a hF=>?_
    refine E.opvg hF (av (hF.at 0 rfl) (bG (v:= .int .i64 d) (st.bk 2 rfl) rfl)) (aa rfl rfl (hF.at 1 rfl) rfl) rfl rfl rfl fun a hF=>?_
    refine E.opvg hF (aq (hF.at 0 rfl) ao ab (aw (bS (c:=false) (aK (by omega))) (by simp))) (aa rfl rfl (hF.at 2 rfl) rfl) rfl rfl rfl fun a hF=>?_
    refine oV hF (aQ (hF.at 3 rfl) (hF.at 0 rfl)) rfl fun a hF=>?_
    refine oA hF 0 rfl rfl fun a hF=>?_
    refine E.nil ?_
    refine wp_cond_false (hF.at 0 rfl) ?_
    refine wq ?_
    refine oV hF (aA (hF.at 42 rfl) (eQ (p:=0) rfl)) rfl fun a hF=>?_
    refine oV hF (av (hF.at 0 rfl) (bF (v:= .int .i64 y) (st.bk 2 rfl) rfl)) rfl fun a hF=>?_
    refine oV hF (aq (hF.at 0 rfl) ao ab (aw (a6 (c:=false) (aK (by omega))) (by simp))) rfl fun a hF=>?_
    refine oM hF 0 rfl rfl fun a hF=>?_
    refine E.opvg hF (aA (hF.at 46 rfl) (eQ (p:=0) rfl)) (aa rfl rfl (hF.at 0 rfl) rfl) rfl rfl rfl fun a hF=>?_
    refine E.opvg hF (av (hF.at 0 rfl) (bF (v:= .int .i64 y) (st.bk 2 rfl) rfl)) (aa rfl rfl (hF.at 1 rfl) rfl) rfl rfl rfl fun a hF=>?_
    refine E.opvg hF (aq (hF.at 0 rfl) ao ab (aw (bS (c:=false) (aK (by omega))) (by simp))) (aa rfl rfl (hF.at 2 rfl) rfl) rfl rfl rfl fun a hF=>?_
    refine oV hF (aQ (hF.at 3 rfl) (hF.at 0 rfl)) rfl fun a hF=>?_
    refine oA hF 0 rfl rfl fun a hF=>?_
    refine E.nil ?_
    refine wp_cond_false (hF.at 0 rfl) ?_
    refine wp_skip ?_
    refine E.blk ?_
    refine E.norm ?_
    refine wp_seq ?_
    refine E.rg 11 aF hF [77,78,79,80,81,82,76,83,84,10,11] [_,_,_,_,.of (fun w v=>RPl w v (((pa:Int):Rat)/((pb:Int):Rat)) (((pc:Int):Rat)/((pd:Int):Rat)) 2) (fun _ _ _ h hb=>h.below hb),_,.ex (.tuple #[.int .i64 (soN (bf r pa pb pc pd) y m d),.int .i64 (soE (bf r pa pb pc pd) y m d)]),.ex (.int .i64 (soN (bf r pa pb pc pd) y m d)),.ex (.int .i64 (soE (bf r pa pb pc pd) y m d)),.ex (.int .i64 (soN (bf r pa pb pc pd) y m d)),.ex (.int .i64 (soE (bf r pa pb pc pd) y m d))] (by decide+kernel) rfl rfl rfl ⟨rm 52 rfl,rb st cL 51 2 rfl,ck st k26 rfl fun _ s=>bA (po y m d _),rb st be 44 0 rfl,ck st k18 rfl fun _ s=>pL (jt pa pb pc pd _ (by omega) (by omega) (by omega) (by omega) (by omega) (by omega) (by omega) (by omega)),ck st k28 rfl fun _ s _ x81=>bA (su r y m d pa pb pc pd _ _ x81 (by first|assumption|exact⟨by omega,by omega,by omega,by omega,by omega,by omega,by omega,by omega⟩) (by omega) (by omega) (by omega) (by omega) (by omega) (by omega)),(by intro a' w' hF' hb hd;have e82:=tE hd 0 rfl;exact dv0 (aP e82) rfl rfl rfl),(by intro a' w' hF' hb hd;have e76:=tE hd 0 rfl;exact dv0 (aW (v:= .int .i64 (soN (bf r pa pb pc pd) y m d)) e76 rfl) rfl rfl rfl),(by intro a' w' hF' hb hd;have e76:=tE hd 0 rfl;exact dv0 (aW (v:= .int .i64 (soE (bf r pa pb pc pd) y m d)) e76 rfl) rfl rfl rfl),(by intro a' w' hF' hb hd;have e83:=tE hd 0 rfl;exact dv0 (aO e83) rfl rfl rfl),(by intro a' w' hF' hb hd;have e84:=tE hd 0 rfl;exact dv0 (aO e84) rfl rfl rfl),trivial⟩ ?_
    intro a w7 hF bb hall
    replace st:=st.to bb
    replace hF:=rE hall hF 9 rfl rfl
    replace hF:=rE hall hF 10 rfl rfl
    clear hall bb
    refine nq ?_
    refine oM hF 37 rfl rfl fun a hF=>?_
    refine oM hF 1 rfl rfl fun a hF=>?_
    refine oV hF (aq (hF.at 1 rfl) (hF.at 0 rfl) ab (aw (aX (c:=true) (by simp)) (by simp))) rfl fun a hF=>?_
    refine oM hF 0 rfl rfl fun a hF=>?_
    refine E.opvg hF (aP (hF.at 42 rfl)) (aa rfl rfl (hF.at 0 rfl) rfl) rfl rfl rfl fun a hF=>?_
    refine E.opvg hF (aP (hF.at 6 rfl)) (aa rfl rfl (hF.at 1 rfl) rfl) rfl rfl rfl fun a hF=>?_
    refine E.opvg hF (aq (hF.at 1 rfl) (hF.at 0 rfl) ab (aw (aX (c:=true) (by simp)) (by simp))) (aa rfl rfl (hF.at 2 rfl) rfl) rfl rfl rfl fun a hF=>?_
    refine oV hF (aN (hF.at 3 rfl) (hF.at 0 rfl)) rfl fun a hF=>?_
    refine oE hF 0 rfl rfl fun a hF=>?_
    refine nr ?_
    have bel:=st.bel
    refine rt Tryz.results5 hF 0 rfl ?_
    exact⟨rfl,bel⟩
   ·have st:=St.start w
    refine go3 (nt:=93) Tryz.func5 rfl rfl rfl fun a hF=>?_
    refine wq ?_
    refine bx st hF 1 rfl rfl fun g4 w1 a st hF=>?_
    refine bx st hF 3 rfl rfl fun g5 w2 a st hF=>?_
    refine oC hF rfl fun a hF=>?_
    refine ns ?_
    refine wq ?_
    refine cX st hF (rgc k13 jo) (fH _ (hT.below st.bel)) rfl fun w3 a st hF=>?_
    refine oV hF (fi (hF.at 0 rfl) (eK _ false rfl)) rfl fun a hF=>?_
    refine E.nil ?_
    refine wp_cond_false (hF.at 0 rfl) ?_
    refine wp_skip ?_
    refine E.norm ?_
    refine wq ?_
    refine oL hF st 3 0 lk rfl rfl rfl rfl fun a hF=>?_
    refine cX st hF (rgc k15 (aI (hF.at 0 rfl))) (iz _ hpa hpb hpc hpd) rfl fun w4 a st hF=>?_
    refine S.new st hF 0 rfl be rfl rfl rfl rfl rfl fun g7 w5 a st hF=>?_
    refine nq ?_
    refine oM hF 8 rfl rfl fun a hF=>?_
    refine oL hF st 8 2 cL rfl rfl rfl rfl fun a hF=>?_
    refine oL hF st 2 0 be rfl rfl rfl rfl fun a hF=>?_
    refine cX st hF (rgc k25 (eB (hF.at 2 rfl) (hF.at 1 rfl) (hF.at 0 rfl))) (wj r y m d pa pb pc pd _ (by omega) (by omega) (by omega) (by omega) (by omega) (by omega)) rfl fun w6 a st hF=>?_
    refine oM hF 0 rfl rfl fun a hF=>?_
    refine oV hF (aW (v:= .int .i64 0) (hF.at 0 rfl) rfl) rfl fun a hF=>?_
    refine oV hF (aW (v:= .int .i64 2) (hF.at 1 rfl) rfl) rfl fun a hF=>?_
    refine oA hF 1 rfl rfl fun a hF=>?_
    refine oA hF 1 rfl rfl fun a hF=>?_
    refine ns ?_
    refine wp_block ?_
    refine wq ?_
    refine oM hF 17 rfl rfl fun a hF=>?_
    refine oV hF (aq (hF.at 0 rfl) ao ab (aw (a6 (c:=false) (aK (by omega))) (by simp))) rfl fun a hF=>?_
    refine oM hF 0 rfl rfl fun a hF=>?_
    refine E.opvg hF (aP (hF.at 20 rfl)) (aa rfl rfl (hF.at 0 rfl) rfl) rfl rfl rfl fun a hF=>?_
    refine E.opvg hF (aq (hF.at 0 rfl) ao ab (aw (bS (c:=false) (aK (by omega))) (by simp))) (aa rfl rfl (hF.at 1 rfl) rfl) rfl rfl rfl fun a hF=>?_
    refine oV hF (aQ (hF.at 2 rfl) (hF.at 0 rfl)) rfl fun a hF=>?_
    refine oA hF 0 rfl rfl fun a hF=>?_
    refine E.nil ?_
    refine wp_cond_false (hF.at 0 rfl) ?_
    refine wq ?_
    refine oV hF (aA (hF.at 23 rfl) (dz (p:=1) rfl)) rfl fun a hF=>?_
    refine oV hF (av (hF.at 0 rfl) (bG (v:= .int .i64 m) (st.bk 2 rfl) rfl)) rfl fun a hF=>?_
    refine oV hF (aq (hF.at 0 rfl) ao ab (aw (a6 (c:=false) (aK (by omega))) (by simp))) rfl fun a hF=>?_
    refine oM hF 0 rfl rfl fun a hF=>?_
    refine E.opvg hF (aA (hF.at 27 rfl) (dz (p:=1) rfl)) (aa rfl rfl (hF.at 0 rfl) rfl) rfl rfl rfl fun a hF=>?_
    refine E.opvg hF (av (hF.at 0 rfl) (bG (v:= .int .i64 m) (st.bk 2 rfl) rfl)) (aa rfl rfl (hF.at 1 rfl) rfl) rfl rfl rfl fun a hF=>?_
    refine E.opvg hF (aq (hF.at 0 rfl) ao ab (aw (bS (c:=false) (aK (by omega))) (by simp))) (aa rfl rfl (hF.at 2 rfl) rfl) rfl rfl rfl fun a hF=>?_
    refine oV hF (aQ (hF.at 3 rfl) (hF.at 0 rfl)) rfl fun a hF=>?_
    refine oM hF 0 rfl rfl fun a hF=>?_
    refine E.opvg hF (aA (hF.at 32 rfl) (di (p:=2) rfl)) (aa rfl rfl (hF.at 0 rfl) rfl) rfl rfl rfl fun a hF=>?_
    refine E.opvg hF (av (hF.at 0 rfl) (bG (v:= .int .i64 d) (st.bk 2 rfl) rfl)) (aa rfl rfl (hF.at 1 rfl) rfl) rfl rfl rfl fun a hF=>?_
    refine E.opvg hF (aq (hF.at 0 rfl) ao ab (aw (a6 (c:=false) (aK (by omega))) (by simp))) (aa rfl rfl (hF.at 2 rfl) rfl) rfl rfl rfl fun a hF=>?_
    refine oV hF (aQ (hF.at 3 rfl) (hF.at 0 rfl)) rfl fun a hF=>?_
    refine oM hF 0 rfl rfl fun a hF=>?_
    refine E.opvg hF (aA (hF.at 37 rfl) (di (p:=2) rfl)) (aa rfl rfl (hF.at 0 rfl) rfl) rfl rfl rfl fun a hF=>?_
    refine E.opvg hF (av (hF.at 0 rfl) (bG (v:= .int .i64 d) (st.bk 2 rfl) rfl)) (aa rfl rfl (hF.at 1 rfl) rfl) rfl rfl rfl fun a hF=>?_
    refine E.opvg hF (aq (hF.at 0 rfl) ao ab (aw (bS (c:=false) (aK (by omega))) (by simp))) (aa rfl rfl (hF.at 2 rfl) rfl) rfl rfl rfl fun a hF=>?_
    refine oV hF (aQ (hF.at 3 rfl) (hF.at 0 rfl)) rfl fun a hF=>?_
    refine oA hF 0 rfl rfl fun a hF=>?_
    refine E.nil ?_
    refine wp_cond_false (hF.at 0 rfl) ?_
    refine wq ?_
    refine oV hF (aA (hF.at 42 rfl) (eQ (p:=0) rfl)) rfl fun a hF=>?_
    refine oV hF (av (hF.at 0 rfl) (bF (v:= .int .i64 y) (st.bk 2 rfl) rfl)) rfl fun a hF=>?_
    by_cases hc7:y<(-9000)
    ·refine oV hF (aq (hF.at 0 rfl) ao ab (aw (a6 (c:=true) (aU hc7)) (by simp))) rfl fun a hF=>?_
     refine oM hF 0 rfl rfl fun a hF=>?_
     refine E.unwanted hF (aa rfl rfl (hF.at 0 rfl) rfl) rfl rfl rfl fun a hF=>?_
     refine E.unwanted hF (aa rfl rfl (hF.at 1 rfl) rfl) rfl rfl rfl fun a hF=>?_
     refine E.unwanted hF (aa rfl rfl (hF.at 2 rfl) rfl) rfl rfl rfl fun a hF=>?_
     refine oV hF (aN (hF.at 3 rfl) ao) rfl fun a hF=>?_
     refine oA hF 0 rfl rfl fun a hF=>?_
     refine E.nil ?_
     refine wp_cond_true (hF.at 0 rfl) ?_
     refine wq ?_
     refine oM hF 35 rfl rfl fun a hF=>?_
     refine oV hF (aq (hF.at 0 rfl) ao ab (aw (aX (c:=true) (by decide)) (by simp))) rfl fun a hF=>?_
     refine oM hF 0 rfl rfl fun a hF=>?_
     refine E.opvg hF (aP (hF.at 39 rfl)) (aa rfl rfl (hF.at 0 rfl) rfl) rfl rfl rfl fun a hF=>?_
     refine E.opvg hF (aq (hF.at 0 rfl) ao ab (aw (aX (c:=true) (by decide)) (by simp))) (aa rfl rfl (hF.at 1 rfl) rfl) rfl rfl rfl fun a hF=>?_
     refine oV hF (aN (hF.at 2 rfl) (hF.at 0 rfl)) rfl fun a hF=>?_
     refine oE hF 0 rfl rfl fun a hF=>?_
     refine nr ?_
     have bel:=st.bel
     refine rt Tryz.results5 hF 0 rfl ?_
     exact⟨rfl,bel⟩
    ·refine oV hF (aq (hF.at 0 rfl) ao ab (aw (a6 (c:=false) (aK hc7)) (by simp))) rfl fun a hF=>?_
     refine oM hF 0 rfl rfl fun a hF=>?_
     refine E.opvg hF (aA (hF.at 46 rfl) (eQ (p:=0) rfl)) (aa rfl rfl (hF.at 0 rfl) rfl) rfl rfl rfl fun a hF=>?_
     refine E.opvg hF (av (hF.at 0 rfl) (bF (v:= .int .i64 y) (st.bk 2 rfl) rfl)) (aa rfl rfl (hF.at 1 rfl) rfl) rfl rfl rfl fun a hF=>?_
     by_cases hc8:9000<y
     ·refine E.opvg hF (aq (hF.at 0 rfl) ao ab (aw (bS (c:=true) (aU hc8)) (by simp))) (aa rfl rfl (hF.at 2 rfl) rfl) rfl rfl rfl fun a hF=>?_
      refine oV hF (aQ (hF.at 3 rfl) (hF.at 0 rfl)) rfl fun a hF=>?_
      refine oA hF 0 rfl rfl fun a hF=>?_
      refine E.nil ?_
      refine wp_cond_true (hF.at 0 rfl) ?_
      refine wq ?_
      refine oM hF 35 rfl rfl fun a hF=>?_
      refine oV hF (aq (hF.at 0 rfl) ao ab (aw (aX (c:=true) (by decide)) (by simp))) rfl fun a hF=>?_
      refine oM hF 0 rfl rfl fun a hF=>?_
      refine E.opvg hF (aP (hF.at 39 rfl)) (aa rfl rfl (hF.at 0 rfl) rfl) rfl rfl rfl fun a hF=>?_
      refine E.opvg hF (aq (hF.at 0 rfl) ao ab (aw (aX (c:=true) (by decide)) (by simp))) (aa rfl rfl (hF.at 1 rfl) rfl) rfl rfl rfl fun a hF=>?_
      refine oV hF (aN (hF.at 2 rfl) (hF.at 0 rfl)) rfl fun a hF=>?_
      refine oE hF 0 rfl rfl fun a hF=>?_
      refine nr ?_
      have bel:=st.bel
      refine rt Tryz.results5 hF 0 rfl ?_
      exact⟨rfl,bel⟩
     ·exfalso;omega
  ·have st:=St.start w
   refine go3 (nt:=93) Tryz.func5 rfl rfl rfl fun a hF=>?_
   refine wq ?_
   refine bx st hF 1 rfl rfl fun g4 w1 a st hF=>?_
   refine bx st hF 3 rfl rfl fun g5 w2 a st hF=>?_
   refine oC hF rfl fun a hF=>?_
   refine ns ?_
   refine wq ?_
   refine cX st hF (rgc k13 jo) (fH _ (hT.below st.bel)) rfl fun w3 a st hF=>?_
   refine oV hF (fi (hF.at 0 rfl) (eK _ false rfl)) rfl fun a hF=>?_
   refine E.nil ?_
   refine wp_cond_false (hF.at 0 rfl) ?_
   refine wp_skip ?_
   refine E.norm ?_
   refine wq ?_
   refine oL hF st 3 0 lk rfl rfl rfl rfl fun a hF=>?_
   refine cX st hF (rgc k15 (aI (hF.at 0 rfl))) (iz _ hpa hpb hpc hpd) rfl fun w4 a st hF=>?_
   refine S.new st hF 0 rfl be rfl rfl rfl rfl rfl fun g7 w5 a st hF=>?_
   refine nq ?_
   refine oM hF 8 rfl rfl fun a hF=>?_
   refine oL hF st 8 2 cL rfl rfl rfl rfl fun a hF=>?_
   refine oL hF st 2 0 be rfl rfl rfl rfl fun a hF=>?_
   refine cX st hF (rgc k25 (eB (hF.at 2 rfl) (hF.at 1 rfl) (hF.at 0 rfl))) (wW r y m d pa pb pc pd _ (by omega) (by omega)) rfl fun w6 a st hF=>?_
   refine oM hF 0 rfl rfl fun a hF=>?_
   refine oV hF (aW (v:= .int .i64 0) (hF.at 0 rfl) rfl) rfl fun a hF=>?_
   refine oV hF (aW (v:= .int .i64 4) (hF.at 1 rfl) rfl) rfl fun a hF=>?_
   refine oA hF 1 rfl rfl fun a hF=>?_
   refine oA hF 1 rfl rfl fun a hF=>?_
   refine ns ?_
   refine wp_block ?_
   refine wq ?_
   refine oM hF 17 rfl rfl fun a hF=>?_
   refine oV hF (aq (hF.at 0 rfl) ao ab (aw (a6 (c:=false) (aK (by omega))) (by simp))) rfl fun a hF=>?_
   refine oM hF 0 rfl rfl fun a hF=>?_
   refine E.opvg hF (aP (hF.at 20 rfl)) (aa rfl rfl (hF.at 0 rfl) rfl) rfl rfl rfl fun a hF=>?_
   refine E.opvg hF (aq (hF.at 0 rfl) ao ab (aw (bS (c:=false) (aK (by omega))) (by simp))) (aa rfl rfl (hF.at 1 rfl) rfl) rfl rfl rfl fun a hF=>?_
   refine oV hF (aQ (hF.at 2 rfl) (hF.at 0 rfl)) rfl fun a hF=>?_
   refine oA hF 0 rfl rfl fun a hF=>?_
   refine E.nil ?_
   refine wp_cond_false (hF.at 0 rfl) ?_
   refine wq ?_
   refine oV hF (aA (hF.at 23 rfl) (dz (p:=1) rfl)) rfl fun a hF=>?_
   refine oV hF (av (hF.at 0 rfl) (bG (v:= .int .i64 m) (st.bk 2 rfl) rfl)) rfl fun a hF=>?_
   by_cases hc7:m<1
   ·refine oV hF (aq (hF.at 0 rfl) ao ab (aw (a6 (c:=true) (aU hc7)) (by simp))) rfl fun a hF=>?_
    refine oM hF 0 rfl rfl fun a hF=>?_
    refine E.unwanted hF (aa rfl rfl (hF.at 0 rfl) rfl) rfl rfl rfl fun a hF=>?_
    refine E.unwanted hF (aa rfl rfl (hF.at 1 rfl) rfl) rfl rfl rfl fun a hF=>?_
    refine E.unwanted hF (aa rfl rfl (hF.at 2 rfl) rfl) rfl rfl rfl fun a hF=>?_
    refine oV hF (aN (hF.at 3 rfl) ao) rfl fun a hF=>?_
    refine oM hF 0 rfl rfl fun a hF=>?_
    refine E.unwanted hF (aa rfl rfl (hF.at 0 rfl) rfl) rfl rfl rfl fun a hF=>?_
    refine E.unwanted hF (aa rfl rfl (hF.at 1 rfl) rfl) rfl rfl rfl fun a hF=>?_
    refine E.unwanted hF (aa rfl rfl (hF.at 2 rfl) rfl) rfl rfl rfl fun a hF=>?_
    refine oV hF (aN (hF.at 3 rfl) ao) rfl fun a hF=>?_
    refine oM hF 0 rfl rfl fun a hF=>?_
    refine E.unwanted hF (aa rfl rfl (hF.at 0 rfl) rfl) rfl rfl rfl fun a hF=>?_
    refine E.unwanted hF (aa rfl rfl (hF.at 1 rfl) rfl) rfl rfl rfl fun a hF=>?_
    refine E.unwanted hF (aa rfl rfl (hF.at 2 rfl) rfl) rfl rfl rfl fun a hF=>?_
    refine oV hF (aN (hF.at 3 rfl) ao) rfl fun a hF=>?_
    refine oA hF 0 rfl rfl fun a hF=>?_
    refine E.nil ?_
    refine wp_cond_true (hF.at 0 rfl) ?_
    refine wq ?_
    refine oM hF 26 rfl rfl fun a hF=>?_
    refine oV hF (aq (hF.at 0 rfl) ao ab (aw (aX (c:=true) (by decide)) (by simp))) rfl fun a hF=>?_
    refine oM hF 0 rfl rfl fun a hF=>?_
    refine E.opvg hF (aP (hF.at 30 rfl)) (aa rfl rfl (hF.at 0 rfl) rfl) rfl rfl rfl fun a hF=>?_
    refine E.opvg hF (aq (hF.at 0 rfl) ao ab (aw (aX (c:=true) (by decide)) (by simp))) (aa rfl rfl (hF.at 1 rfl) rfl) rfl rfl rfl fun a hF=>?_
    refine oV hF (aN (hF.at 2 rfl) (hF.at 0 rfl)) rfl fun a hF=>?_
    refine oE hF 0 rfl rfl fun a hF=>?_
    refine nr ?_
    have bel:=st.bel
    refine rt Tryz.results5 hF 0 rfl ?_
    exact⟨rfl,bel⟩
   ·refine oV hF (aq (hF.at 0 rfl) ao ab (aw (a6 (c:=false) (aK hc7)) (by simp))) rfl fun a hF=>?_
    refine oM hF 0 rfl rfl fun a hF=>?_
    refine E.opvg hF (aA (hF.at 27 rfl) (dz (p:=1) rfl)) (aa rfl rfl (hF.at 0 rfl) rfl) rfl rfl rfl fun a hF=>?_
    refine E.opvg hF (av (hF.at 0 rfl) (bG (v:= .int .i64 m) (st.bk 2 rfl) rfl)) (aa rfl rfl (hF.at 1 rfl) rfl) rfl rfl rfl fun a hF=>?_
    by_cases hc8:12<m
    ·refine E.opvg hF (aq (hF.at 0 rfl) ao ab (aw (bS (c:=true) (aU hc8)) (by simp))) (aa rfl rfl (hF.at 2 rfl) rfl) rfl rfl rfl fun a hF=>?_
     refine oV hF (aQ (hF.at 3 rfl) (hF.at 0 rfl)) rfl fun a hF=>?_
     refine oM hF 0 rfl rfl fun a hF=>?_
     refine E.unwanted hF (aa rfl rfl (hF.at 0 rfl) rfl) rfl rfl rfl fun a hF=>?_
     refine E.unwanted hF (aa rfl rfl (hF.at 1 rfl) rfl) rfl rfl rfl fun a hF=>?_
     refine E.unwanted hF (aa rfl rfl (hF.at 2 rfl) rfl) rfl rfl rfl fun a hF=>?_
     refine oV hF (aN (hF.at 3 rfl) ao) rfl fun a hF=>?_
     refine oM hF 0 rfl rfl fun a hF=>?_
     refine E.unwanted hF (aa rfl rfl (hF.at 0 rfl) rfl) rfl rfl rfl fun a hF=>?_
     refine E.unwanted hF (aa rfl rfl (hF.at 1 rfl) rfl) rfl rfl rfl fun a hF=>?_
     refine E.unwanted hF (aa rfl rfl (hF.at 2 rfl) rfl) rfl rfl rfl fun a hF=>?_
     refine oV hF (aN (hF.at 3 rfl) ao) rfl fun a hF=>?_
     refine oA hF 0 rfl rfl fun a hF=>?_
     refine E.nil ?_
     refine wp_cond_true (hF.at 0 rfl) ?_
     refine wq ?_
     refine oM hF 26 rfl rfl fun a hF=>?_
     refine oV hF (aq (hF.at 0 rfl) ao ab (aw (aX (c:=true) (by decide)) (by simp))) rfl fun a hF=>?_
     refine oM hF 0 rfl rfl fun a hF=>?_
     refine E.opvg hF (aP (hF.at 30 rfl)) (aa rfl rfl (hF.at 0 rfl) rfl) rfl rfl rfl fun a hF=>?_
     refine E.opvg hF (aq (hF.at 0 rfl) ao ab (aw (aX (c:=true) (by decide)) (by simp))) (aa rfl rfl (hF.at 1 rfl) rfl) rfl rfl rfl fun a hF=>?_
     refine oV hF (aN (hF.at 2 rfl) (hF.at 0 rfl)) rfl fun a hF=>?_
     refine oE hF 0 rfl rfl fun a hF=>?_
     refine nr ?_
     have bel:=st.bel
     refine rt Tryz.results5 hF 0 rfl ?_
     exact⟨rfl,bel⟩
    ·refine E.opvg hF (aq (hF.at 0 rfl) ao ab (aw (bS (c:=false) (aK hc8)) (by simp))) (aa rfl rfl (hF.at 2 rfl) rfl) rfl rfl rfl fun a hF=>?_
     refine oV hF (aQ (hF.at 3 rfl) (hF.at 0 rfl)) rfl fun a hF=>?_
     refine oM hF 0 rfl rfl fun a hF=>?_
     refine E.opvg hF (aA (hF.at 32 rfl) (di (p:=2) rfl)) (aa rfl rfl (hF.at 0 rfl) rfl) rfl rfl rfl fun a hF=>?_
     refine E.opvg hF (av (hF.at 0 rfl) (bG (v:= .int .i64 d) (st.bk 2 rfl) rfl)) (aa rfl rfl (hF.at 1 rfl) rfl) rfl rfl rfl fun a hF=>?_
     by_cases hc9:d<1
     ·refine E.opvg hF (aq (hF.at 0 rfl) ao ab (aw (a6 (c:=true) (aU hc9)) (by simp))) (aa rfl rfl (hF.at 2 rfl) rfl) rfl rfl rfl fun a hF=>?_
      refine oV hF (aQ (hF.at 3 rfl) (hF.at 0 rfl)) rfl fun a hF=>?_
      refine oM hF 0 rfl rfl fun a hF=>?_
      refine E.unwanted hF (aa rfl rfl (hF.at 0 rfl) rfl) rfl rfl rfl fun a hF=>?_
      refine E.unwanted hF (aa rfl rfl (hF.at 1 rfl) rfl) rfl rfl rfl fun a hF=>?_
      refine E.unwanted hF (aa rfl rfl (hF.at 2 rfl) rfl) rfl rfl rfl fun a hF=>?_
      refine oV hF (aN (hF.at 3 rfl) ao) rfl fun a hF=>?_
      refine oA hF 0 rfl rfl fun a hF=>?_
      refine E.nil ?_
      refine wp_cond_true (hF.at 0 rfl) ?_
      refine wq ?_
      refine oM hF 26 rfl rfl fun a hF=>?_
      refine oV hF (aq (hF.at 0 rfl) ao ab (aw (aX (c:=true) (by decide)) (by simp))) rfl fun a hF=>?_
      refine oM hF 0 rfl rfl fun a hF=>?_
      refine E.opvg hF (aP (hF.at 30 rfl)) (aa rfl rfl (hF.at 0 rfl) rfl) rfl rfl rfl fun a hF=>?_
      refine E.opvg hF (aq (hF.at 0 rfl) ao ab (aw (aX (c:=true) (by decide)) (by simp))) (aa rfl rfl (hF.at 1 rfl) rfl) rfl rfl rfl fun a hF=>?_
      refine oV hF (aN (hF.at 2 rfl) (hF.at 0 rfl)) rfl fun a hF=>?_
      refine oE hF 0 rfl rfl fun a hF=>?_
      refine nr ?_
      have bel:=st.bel
      refine rt Tryz.results5 hF 0 rfl ?_
      exact⟨rfl,bel⟩
     ·refine E.opvg hF (aq (hF.at 0 rfl) ao ab (aw (a6 (c:=false) (aK hc9)) (by simp))) (aa rfl rfl (hF.at 2 rfl) rfl) rfl rfl rfl fun a hF=>?_
      refine oV hF (aQ (hF.at 3 rfl) (hF.at 0 rfl)) rfl fun a hF=>?_
      refine oM hF 0 rfl rfl fun a hF=>?_
      refine E.opvg hF (aA (hF.at 37 rfl) (di (p:=2) rfl)) (aa rfl rfl (hF.at 0 rfl) rfl) rfl rfl rfl fun a hF=>?_
      refine E.opvg hF (av (hF.at 0 rfl) (bG (v:= .int .i64 d) (st.bk 2 rfl) rfl)) (aa rfl rfl (hF.at 1 rfl) rfl) rfl rfl rfl fun a hF=>?_
      by_cases hc10:32<d
      ·refine E.opvg hF (aq (hF.at 0 rfl) ao ab (aw (bS (c:=true) (aU hc10)) (by simp))) (aa rfl rfl (hF.at 2 rfl) rfl) rfl rfl rfl fun a hF=>?_
       refine oV hF (aQ (hF.at 3 rfl) (hF.at 0 rfl)) rfl fun a hF=>?_
       refine oA hF 0 rfl rfl fun a hF=>?_
       refine E.nil ?_
       refine wp_cond_true (hF.at 0 rfl) ?_
       refine wq ?_
       refine oM hF 26 rfl rfl fun a hF=>?_
       refine oV hF (aq (hF.at 0 rfl) ao ab (aw (aX (c:=true) (by decide)) (by simp))) rfl fun a hF=>?_
       refine oM hF 0 rfl rfl fun a hF=>?_
       refine E.opvg hF (aP (hF.at 30 rfl)) (aa rfl rfl (hF.at 0 rfl) rfl) rfl rfl rfl fun a hF=>?_
       refine E.opvg hF (aq (hF.at 0 rfl) ao ab (aw (aX (c:=true) (by decide)) (by simp))) (aa rfl rfl (hF.at 1 rfl) rfl) rfl rfl rfl fun a hF=>?_
       refine oV hF (aN (hF.at 2 rfl) (hF.at 0 rfl)) rfl fun a hF=>?_
       refine oE hF 0 rfl rfl fun a hF=>?_
       refine nr ?_
       have bel:=st.bel
       refine rt Tryz.results5 hF 0 rfl ?_
       exact⟨rfl,bel⟩
      ·exfalso;omega
 ·have st:=St.start w
  refine go3 (nt:=93) Tryz.func5 rfl rfl rfl fun a hF=>?_
  refine wq ?_
  refine bx st hF 1 rfl rfl fun g4 w1 a st hF=>?_
  refine bx st hF 3 rfl rfl fun g5 w2 a st hF=>?_
  refine oC hF rfl fun a hF=>?_
  refine ns ?_
  refine wq ?_
  refine cX st hF (rgc k13 jo) (fH _ (hT.below st.bel)) rfl fun w3 a st hF=>?_
  refine oV hF (fi (hF.at 0 rfl) (eK _ false rfl)) rfl fun a hF=>?_
  refine E.nil ?_
  refine wp_cond_false (hF.at 0 rfl) ?_
  refine wp_skip ?_
  refine E.norm ?_
  refine wq ?_
  refine oL hF st 3 0 lk rfl rfl rfl rfl fun a hF=>?_
  refine cX st hF (rgc k15 (aI (hF.at 0 rfl))) (iz _ hpa hpb hpc hpd) rfl fun w4 a st hF=>?_
  refine S.new st hF 0 rfl be rfl rfl rfl rfl rfl fun g7 w5 a st hF=>?_
  refine nq ?_
  refine oM hF 8 rfl rfl fun a hF=>?_
  refine oL hF st 8 2 cL rfl rfl rfl rfl fun a hF=>?_
  refine oL hF st 2 0 be rfl rfl rfl rfl fun a hF=>?_
  refine cX st hF (rgc k25 (eB (hF.at 2 rfl) (hF.at 1 rfl) (hF.at 0 rfl))) (vW r y m d pa pb pc pd _ (by rw[xk hr];decide)) rfl fun w6 a st hF=>?_
  refine oM hF 0 rfl rfl fun a hF=>?_
  refine oV hF (aW (v:= .int .i64 0) (hF.at 0 rfl) rfl) rfl fun a hF=>?_
  refine oV hF (aW (v:= .int .i64 (ckE r pa pb pc pd)) (hF.at 1 rfl) rfl) rfl fun a hF=>?_
  refine oA hF 1 rfl rfl fun a hF=>?_
  refine oA hF 1 rfl rfl fun a hF=>?_
  refine ns ?_
  refine wp_block ?_
  refine wq ?_
  refine oM hF 17 rfl rfl fun a hF=>?_
  by_cases hc7:r<0
  ·refine oV hF (aq (hF.at 0 rfl) ao ab (aw (a6 (c:=true) (aU hc7)) (by simp))) rfl fun a hF=>?_
   refine oM hF 0 rfl rfl fun a hF=>?_
   refine E.unwanted hF (aa rfl rfl (hF.at 0 rfl) rfl) rfl rfl rfl fun a hF=>?_
   refine E.unwanted hF (aa rfl rfl (hF.at 1 rfl) rfl) rfl rfl rfl fun a hF=>?_
   refine oV hF (aN (hF.at 2 rfl) ao) rfl fun a hF=>?_
   refine oA hF 0 rfl rfl fun a hF=>?_
   refine E.nil ?_
   refine wp_cond_true (hF.at 0 rfl) ?_
   refine wq ?_
   refine oM hF 7 rfl rfl fun a hF=>?_
   refine oV hF (aq (hF.at 0 rfl) ao ab (aw (aX (c:=true) (aU (xk hr))) (by simp))) rfl fun a hF=>?_
   refine oM hF 0 rfl rfl fun a hF=>?_
   refine E.opvg hF (aP (hF.at 11 rfl)) (aa rfl rfl (hF.at 0 rfl) rfl) rfl rfl rfl fun a hF=>?_
   refine E.opvg hF (aq (hF.at 0 rfl) ao ab (aw (aX (c:=true) (by decide)) (by simp))) (aa rfl rfl (hF.at 1 rfl) rfl) rfl rfl rfl fun a hF=>?_
   refine oV hF (aN (hF.at 2 rfl) (hF.at 0 rfl)) rfl fun a hF=>?_
   refine oE hF 0 rfl rfl fun a hF=>?_
   refine nr ?_
   have bel:=st.bel
   refine rt Tryz.results5 hF 0 rfl ?_
   exact⟨rfl,bel⟩
  ·refine oV hF (aq (hF.at 0 rfl) ao ab (aw (a6 (c:=false) (aK hc7)) (by simp))) rfl fun a hF=>?_
   refine oM hF 0 rfl rfl fun a hF=>?_
   refine E.opvg hF (aP (hF.at 20 rfl)) (aa rfl rfl (hF.at 0 rfl) rfl) rfl rfl rfl fun a hF=>?_
   by_cases hc8:3<r
   ·refine E.opvg hF (aq (hF.at 0 rfl) ao ab (aw (bS (c:=true) (aU hc8)) (by simp))) (aa rfl rfl (hF.at 1 rfl) rfl) rfl rfl rfl fun a hF=>?_
    refine oV hF (aQ (hF.at 2 rfl) (hF.at 0 rfl)) rfl fun a hF=>?_
    refine oA hF 0 rfl rfl fun a hF=>?_
    refine E.nil ?_
    refine wp_cond_true (hF.at 0 rfl) ?_
    refine wq ?_
    refine oM hF 7 rfl rfl fun a hF=>?_
    refine oV hF (aq (hF.at 0 rfl) ao ab (aw (aX (c:=true) (aU (xk hr))) (by simp))) rfl fun a hF=>?_
    refine oM hF 0 rfl rfl fun a hF=>?_
    refine E.opvg hF (aP (hF.at 11 rfl)) (aa rfl rfl (hF.at 0 rfl) rfl) rfl rfl rfl fun a hF=>?_
    refine E.opvg hF (aq (hF.at 0 rfl) ao ab (aw (aX (c:=true) (by decide)) (by simp))) (aa rfl rfl (hF.at 1 rfl) rfl) rfl rfl rfl fun a hF=>?_
    refine oV hF (aN (hF.at 2 rfl) (hF.at 0 rfl)) rfl fun a hF=>?_
    refine oE hF 0 rfl rfl fun a hF=>?_
    refine nr ?_
    have bel:=st.bel
    refine rt Tryz.results5 hF 0 rfl ?_
    exact⟨rfl,bel⟩
   ·exfalso;omega
end Go.Proofs.YtnljadejcfgmaaaGreatDoor
