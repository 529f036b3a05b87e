import Derived.Test.YtnljadejcfgmaaaGreatDoorKB40
import Derived.Test.YtnljadejcfgmaaaGreatDoorKB42
namespace Go.Proofs.YtnljadejcfgmaaaGreatDoor
open Go.RowKit
set_option maxRecDepth 100000
set_option linter.unusedVariables false
set_option maxHeartbeats 8000000
theorem fH (w:World) (hT:bV w):
 Calls Tryz.prog 13 #[] w (aR w (.bool true)):=by
 have hka:kaV (((-1132779:Int)):Rat)=23470560005:=by decide+kernel
 have st:=St.start w
 refine go0 (nt:=34) Tryz.func13 rfl rfl fun a hF=>?_
 refine wq ?_
 refine oC hF rfl fun a hF=>?_
 refine nq ?_
 refine cX st hF (rgc k51 jo) (pU _) rfl fun w1 a st hF=>?_
 refine S.new st hF 0 rfl be rfl rfl rfl rfl rfl fun g1 w2 a st hF=>?_
 refine nq ?_
 refine oL hF st 0 0 be rfl rfl rfl rfl fun a hF=>?_
 refine cX st hF (rgc k24 (eB ao ao (hF.at 0 rfl))) (qR 4 0 463 20 45461 600 _ (by decide+kernel)) rfl fun w3 a st hF=>?_
 refine oM hF 0 rfl rfl fun a hF=>?_
 refine oV hF (aW (v:= .agg #[.int .i64 0,.int .i64 0,.int .i64 0]) (hF.at 0 rfl) rfl) rfl fun a hF=>?_
 refine oV hF (aW (v:= .int .i64 (ckE 4 463 20 45461 600)) (hF.at 1 rfl) rfl) rfl fun a hF=>?_
 refine S.new st hF 1 rfl cL rfl rfl rfl rfl rfl fun g2 w4 a st hF=>?_
 refine oA hF 1 rfl rfl fun a hF=>?_
 refine nq ?_
 refine oV hF (bh (by simp) (DB _)) rfl fun a hF=>?_
 refine cX st hF (rgc k24 (eB ao ao (hF.at 0 rfl))) (qR 0 0 0 0 0 0 _ (by decide+kernel)) rfl fun w5 a st hF=>?_
 refine oM hF 0 rfl rfl fun a hF=>?_
 refine oV hF (aW (v:= .agg #[.int .i64 0,.int .i64 0,.int .i64 0]) (hF.at 0 rfl) rfl) rfl fun a hF=>?_
 refine oV hF (aW (v:= .int .i64 (ckE 0 0 0 0 0)) (hF.at 1 rfl) rfl) rfl fun a hF=>?_
 refine S.new st hF 1 rfl cL rfl rfl rfl rfl rfl fun g4 w6 a st hF=>?_
 refine oA hF 1 rfl rfl fun a hF=>?_
 refine nq ?_
 refine oL hF st 14 2 be rfl rfl rfl rfl fun a hF=>?_
 refine S.ck st hF (rgc k16 (eB ao ao (hF.at 0 rfl))) (aD (ia 3 7 463 20 45461 600 _ (hT.below st.bel) (by first|assumption|exact⟨by omega,by omega,by omega,by omega,by omega,by omega,by omega,by omega⟩) (by omega) (by omega)) (eu (by first|assumption|exact⟨by omega,by omega,by omega,by omega,by omega,by omega,by omega,by omega⟩) (by omega) (by omega))) Rl.cl rfl fun vv8 w7 a st hF=>?_
 obtain⟨r10,rfl⟩:=Rq.fo (st.f 0 rfl).1
 refine S.ck st hF (rgc k40 (aI ao)) (aD (bj (8) _ (by decide) (by decide)) (a9 (az (by decide) (by decide)) (by omega))) Rl.cl rfl fun vv12 w11 a st hF=>?_
 obtain⟨r14,rfl⟩:=Rq.fo (st.f 0 rfl).1
 refine cX st hF (rgc k52 (aC (hF.at 1 rfl) (hF.at 0 rfl))) (xq _ _ _ _ _ (st.f 1 rfl).1 (st.f 0 rfl).1 (by decide+kernel)) rfl fun w15 a st hF=>?_
 refine oM hF 0 rfl rfl fun a hF=>?_
 refine S.ckg st hF (aa rfl rfl (hF.at 0 rfl) rfl) (rgc k40 (aI ao)) (aD (bj ((-1132779)) _ (by decide) (by decide)) (a9 (az (by decide) (by decide)) (by omega))) Rl.cl rfl rfl rfl fun vv17 w16 a st hF=>?_
 obtain⟨r19,rfl⟩:=Rq.fo (st.f 0 rfl).1
 refine S.callxg st hF (aa rfl rfl (hF.at 1 rfl) rfl) (rgc k20 (aI (hF.at 0 rfl))) (iV _ _ 2 _ (hT.below st.bel) (st.f 0 rfl).1 (st.f 0 rfl).2 (by omega) (by omega) (by omega)) rfl rfl rfl fun w20 a st hF=>?_
 refine E.opvg hF (aq (hF.at 0 rfl) ao ab (aw (aX (c:=true) (aU (by decide+kernel))) (by simp))) (aa rfl rfl (hF.at 2 rfl) rfl) rfl rfl rfl fun a hF=>?_
 refine oV hF (aN (hF.at 3 rfl) (hF.at 0 rfl)) rfl fun a hF=>?_
 refine oM hF 0 rfl rfl fun a hF=>?_
 refine E.opvg hF (aP (hF.at 17 rfl)) (aa rfl rfl (hF.at 0 rfl) rfl) rfl rfl rfl fun a hF=>?_
 refine E.opvg hF (aq (hF.at 0 rfl) ao ab (aw (aX (c:=true) (aU (by decide+kernel))) (by simp))) (aa rfl rfl (hF.at 1 rfl) rfl) rfl rfl rfl fun a hF=>?_
 refine oV hF (aN (hF.at 2 rfl) (hF.at 0 rfl)) rfl fun a hF=>?_
 refine oM hF 0 rfl rfl fun a hF=>?_
 refine E.opvg hF (aP (hF.at 14 rfl)) (aa rfl rfl (hF.at 0 rfl) rfl) rfl rfl rfl fun a hF=>?_
 refine E.opvg hF (aq (hF.at 0 rfl) ao ab (aw (aX (c:=true) (aU (by decide+kernel))) (by simp))) (aa rfl rfl (hF.at 1 rfl) rfl) rfl rfl rfl fun a hF=>?_
 refine oV hF (aN (hF.at 2 rfl) (hF.at 0 rfl)) rfl fun a hF=>?_
 refine oE hF 0 rfl rfl fun a hF=>?_
 refine nr ?_
 have bel:=st.bel
 refine rt Tryz.results13 hF 0 rfl ?_
 exact⟨rfl,bel⟩
theorem zZ (wa wb wc wd:Int) (w:World):
 Calls Tryz.prog 15 #[.agg #[.int .i64 wa,.int .i64 wb,.int .i64 wc,.int .i64 wd]] w (aR w (.agg #[.int .i64 (gA 60 120 wa wb),.int .i64 (gB wb),.int .i64 (gA 180 360 wc wd),.int .i64 (gB wd)])):=by
 have st:=St.start w
 refine go1 (nt:=12) Tryz.func15 rfl rfl rfl fun a hF=>?_
 refine wq ?_
 refine bx st hF 0 rfl rfl fun g1 w1 a st hF=>?_
 refine S.alloc st hF be rfl rfl fun g2 w2 a st hF=>?_
 refine nq ?_
 refine oV hF (aA (hF.at 1 rfl) (Ax (p:=0) rfl)) rfl fun a hF=>?_
 refine oV hF (av (hF.at 0 rfl) (bF (v:= .int .i64 wa) (st.bk 1 rfl) rfl)) rfl fun a hF=>?_
 refine oV hF (aA (hF.at 3 rfl) (Ca (p:=1) rfl)) rfl fun a hF=>?_
 refine oV hF (av (hF.at 0 rfl) (bF (v:= .int .i64 wb) (st.bk 1 rfl) rfl)) rfl fun a hF=>?_
 refine oV hF (aA (hF.at 5 rfl) (Be (p:=2) rfl)) rfl fun a hF=>?_
 refine oV hF (av (hF.at 0 rfl) (bF (v:= .int .i64 wc) (st.bk 1 rfl) rfl)) rfl fun a hF=>?_
 refine oV hF (aA (hF.at 7 rfl) (Bh (p:=3) rfl)) rfl fun a hF=>?_
 refine oV hF (av (hF.at 0 rfl) (bF (v:= .int .i64 wd) (st.bk 1 rfl) rfl)) rfl fun a hF=>?_
 refine cX st hF (rgc k50 (wQ (hF.at 6 rfl) (hF.at 4 rfl) (hF.at 2 rfl) (hF.at 0 rfl))) (Cc wa wb wc wd _) rfl fun w3 a st hF=>?_
 have hg1:=lM wb
 have hg2:=pZ wa wb
 have hg3:=lM wd
 have hg4:=qg wc wd
 have hok3550:=nc wa wb wc wd
 refine S.stoI st hF 0 rfl (hF.at 9 rfl) (hF.at 0 rfl) be rfl rfl rfl fun w4 a st hF=>?_
 refine nr ?_
 refine rs Tryz.results15 st hF 9 0 be rfl rfl rfl ?_
 have bel:=st.bel
 exact⟨rfl,bel⟩
theorem iz {wa wb wc wd pa pb pc pd:Int} (w:World) (ha:gA 60 120 wa wb=pa) (hb:gB wb=pb) (hc:gA 180 360 wc wd=pc) (hd:gB wd=pd):Calls Tryz.prog 15 #[.agg #[.int .i64 wa,.int .i64 wb,.int .i64 wc,.int .i64 wd]] w (aR w (.agg #[.int .i64 pa,.int .i64 pb,.int .i64 pc,.int .i64 pd])):=by
 subst ha hb hc hd
 exact zZ wa wb wc wd w
theorem zQ {n z:Int} (w:World) (h:inD n=z):Calls Tryz.prog 14 #[.int .i64 n] w (aR w (.int .i64 z)):=by
 subst h
 exact Ds n w
theorem Ih {P:Program} {w:World} {t:TypeId} {r z:Int} (h:r%4=z):(binOp .and t (.int .i64 r) (.int .i64 3)).run P w= .ok (.int .i64 z) w:=by
 subst h
 exact FF (n:=2) (by decide) (d:=4) (by decide) (by decide)
theorem po (y m d:Int) (w:World):
 Calls Tryz.prog 26 #[.agg #[.int .i64 y,.int .i64 m,.int .i64 d]] w (aR w (.agg #[.int .i64 y,.int .i64 m,.int .i64 d])):=by
 have st:=St.start w
 refine go1 (nt:=10) Tryz.func26 rfl rfl rfl fun a hF=>?_
 refine wq ?_
 refine bx st hF 0 rfl rfl fun g1 w1 a st hF=>?_
 refine S.alloc st hF jP rfl rfl fun g2 w2 a st hF=>?_
 refine nq ?_
 refine oV hF (aA (hF.at 1 rfl) (eQ (p:=0) rfl)) rfl fun a hF=>?_
 refine oV hF (av (hF.at 0 rfl) (bF (v:= .int .i64 y) (st.bk 1 rfl) rfl)) rfl fun a hF=>?_
 refine oV hF (aA (hF.at 3 rfl) (dz (p:=1) rfl)) rfl fun a hF=>?_
 refine oV hF (av (hF.at 0 rfl) (bG (v:= .int .i64 m) (st.bk 1 rfl) rfl)) rfl fun a hF=>?_
 refine oV hF (aA (hF.at 5 rfl) (di (p:=2) rfl)) rfl fun a hF=>?_
 refine oV hF (av (hF.at 0 rfl) (bG (v:= .int .i64 d) (st.bk 1 rfl) rfl)) rfl fun a hF=>?_
 refine oV hF (bh (xg (hF.at 4 rfl) (hF.at 2 rfl) (hF.at 0 rfl)) (pG _ _ _ _)) rfl fun a hF=>?_
 refine S.stoI st hF 0 rfl (hF.at 7 rfl) (hF.at 0 rfl) jP rfl rfl rfl fun w3 a st hF=>?_
 refine nr ?_
 refine rs Tryz.results26 st hF 7 0 jP rfl rfl rfl ?_
 have bel:=st.bel
 exact⟨rfl,bel⟩
theorem solarCritical_walk (r n wa wb wc wd:Int) (w:World) (hT:bV w):
 Calls Tryz.prog 3 #[.int .i64 r,.int .i64 n,.agg #[.int .i64 wa,.int .i64 wb,.int .i64 wc,.int .i64 wd]] w (aR w (.bool true)):=by
 obtain⟨pa,hpa⟩:∃z:Int,gA 60 120 wa wb=z:=⟨_,rfl⟩
 obtain⟨pb,hpb⟩:∃z:Int,gB wb=z:=⟨_,rfl⟩
 obtain⟨pc,hpc⟩:∃z:Int,gA 180 360 wc wd=z:=⟨_,rfl⟩
 obtain⟨pd,hpd⟩:∃z:Int,gB wd=z:=⟨_,rfl⟩
 have hok:cj pa pb pc pd:=by rw[←hpa,←hpb,←hpc,←hpd];exact nc wa wb wc wd
 have hp1:=hok.b0
 have hp2:=hok.b1
 have hp3:=hok.a0
 have hp4:=hok.a1
 have hp5:=hok.d0
 have hp6:=hok.d1
 have hp7:=hok.c0
 have hp8:=hok.c1
 obtain⟨ny,hny⟩:∃z:Int,inD n=z:=⟨_,rfl⟩
 have hin0:=xT n
 rw[hny] at hin0
 have hkc0:=rA r (n:=ny) hok (by omega) (by omega)
 have st:=St.start w
 refine go3 (nt:=46) Tryz.func3 rfl rfl rfl fun a hF=>?_
 refine wq ?_
 refine bx st hF 2 rfl rfl fun g5 w1 a st hF=>?_
 refine oC hF rfl fun a hF=>?_
 refine ns ?_
 refine wq ?_
 refine cX st hF (rgc k13 jo) (fH _ (hT.below st.bel)) rfl fun w2 a st hF=>?_
 refine oV hF (fi (hF.at 0 rfl) (eK _ false rfl)) rfl fun a hF=>?_
 refine E.nil ?_
 refine wp_cond_false (hF.at 0 rfl) ?_
 refine wp_skip ?_
 refine E.norm ?_
 refine wp_seq ?_
 refine E.rga 6 aF hF [13,14,15,16,8,7] [_,_,_,_,kb w2 [.int .i64 0,.int .i64 0,.int .i64 0,.int .i64 0],.ex (.int .i64 ny)] [4] ⟨fun _ _ ⟨g,e,_,o⟩=>⟨g,e,o.lt⟩,trivial⟩ (by decide+kernel) rfl rfl rfl ⟨rm 5 rfl,ck st k14 rfl fun _ s=>bA (zQ _ hny),rb st lk 3 0 rfl,ck st k15 rfl fun _ s=>bA (iz _ hpa hpb hpc hpd),rai be rfl,(by intro a' w' hF' hb hd;have e14:=tE hd 0 rfl;exact dv0 (aO e14) rfl rfl rfl),trivial⟩ ?_
 intro a w3 hF bb hall hne
 have s0:=st
 replace st:=st.to bb
 replace hF:=rE hall hF 3 rfl rfl
 obtain⟨_,e8,g8,rfl,ge8,o8⟩:=sS hall 4 8 rfl rfl
 replace st:=st.push o8 (Nat.le_trans s0.bel.size ge8) (s0.ne ge8)
 clear o8
 replace hF:=hF.add e8
 replace hF:=rE hall hF 5 rfl rfl
 clear hall bb hne s0
 refine S.stoI st hF 0 rfl (hF.at 1 rfl) (hF.at 2 rfl) be rfl rfl rfl fun w4 a st hF=>?_
 refine ns ?_
 refine E.rga 11 aF hF [17,18,19,20,21,22,23,24,25,9,10] [_,_,_,_,_,_,_,.of (fun w v=>RPl w v (((pa:Int):Rat)/((pb:Int):Rat)) (((pc:Int):Rat)/((pd:Int):Rat)) 2) (fun _ _ _ h hb=>h.below hb),_,kn w4 [.bool false,.slice none 0 0,.slice none 0 0],kn w4 [.bool false,.slice none 0 0,.slice none 0 0]] [9,10] ⟨fun _ _ ⟨g,e,_,o⟩=>⟨g,e,o.lt⟩,⟨fun _ _ ⟨g,e,_,o⟩=>⟨g,e,o.lt⟩,trivial⟩⟩ (by decide+kernel) rfl rfl rfl ⟨rm 7 rfl,rm 0 rfl,rb st be 1 0 rfl,ck st k16 rfl fun _ s=>aD (ia r ny pa pb pc pd _ (hT.below s.bel) (by first|assumption|exact⟨by omega,by omega,by omega,by omega,by omega,by omega,by omega,by omega⟩) (by omega) (by omega)) (eu (by first|assumption|exact⟨by omega,by omega,by omega,by omega,by omega,by omega,by omega,by omega⟩) (by omega) (by omega)),rm 7 rfl,rm 0 rfl,rb st be 1 0 rfl,ck st k18 rfl fun _ s=>pL (jt pa pb pc pd _ (by omega) (by omega) (by omega) (by omega) (by omega) (by omega) (by omega) (by omega)),ck st k17 rfl fun _ s _ x24=>aH (fC r ny pa pb pc pd _ _ x24 (by first|assumption|exact⟨by omega,by omega,by omega,by omega,by omega,by omega,by omega,by omega⟩) (by omega) (by omega)) (eu (by first|assumption|exact⟨by omega,by omega,by omega,by omega,by omega,by omega,by omega,by omega⟩) (by omega) (by omega)),ra ah rfl rfl,ra ag rfl rfl,trivial⟩ ?_
 intro a w5 hF bb hall hne
 have s0:=st
 replace st:=st.to bb
 obtain⟨vv6,hF,st⟩:=rS hall hF st 3 rfl rfl Rl.cl
 obtain⟨r8,rfl⟩:=Rq.fo (st.f 0 rfl).1
 obtain⟨vv9,hF,st⟩:=rS hall hF st 8 rfl rfl Rh.cl
 obtain⟨r11,rfl⟩:=Rr.fo (st.f 0 rfl).1
 obtain⟨_,e9,g9,rfl,ge9,o9⟩:=sS hall 9 9 rfl rfl
 replace st:=st.push o9.blk (Nat.le_trans s0.bel.size ge9) (s0.ne ge9)
 clear o9
 replace hF:=hF.add e9
 obtain⟨_,e10,g10,rfl,ge10,o10⟩:=sS hall 10 10 rfl rfl
 replace st:=st.push o10.blk (Nat.le_trans s0.bel.size ge10) (jI (fun(e:g9=g10)=>hne 9 10 9 10 rfl rfl (by decide) rfl rfl (by rw[e9,e10,e])) (s0.ne ge10))
 clear o10
 replace hF:=hF.add e10
 clear hall bb hne s0
 refine so st hF 1 1 3 ah rfl rfl rfl rfl fun w12 a st hF=>?_
 refine so st hF 0 0 2 ag rfl rfl rfl rfl fun w13 a st hF=>?_
 refine ns ?_
 refine E.rg 17 aF hF [26,27,28,29,30,31,32,33,34,35,36,37,38,39,40,41,42] [_,_,_,.ex (.bool true),.ex (.bool true),.ex (r8.v),.ex (.int .i64 (kaV (aY r ny pa pb pc pd)/12-1955880000)),.ex (r11.v),.ex (.int .i64 (kaV (aY r ny pa pb pc pd)/12-1955880000)),.ex (.bool true),.ex (.bool true),.ex (.bool true),.ex (.int .i64 r),.ex (.int .i64 ny),.ex (.agg #[.int .i64 pa,.int .i64 pb,.int .i64 pc,.int .i64 pd]),.ex (.int .i64 (kaV (aY r ny pa pb pc pd)%12)),.ex (r11.v)] (by decide+kernel) rfl rfl rfl ⟨rb st ah 1 1 rfl,rb st ag 0 0 rfl,ck st k19 rfl fun _ s=>bA (EB _ _ (aY r ny pa pb pc pd) (aY r ny pa pb pc pd) 3 120 _ (s.f 1 rfl).1 (s.f 0 rfl).1 (s.f 1 rfl).2 rfl (by omega) (by omega)),(by intro a' w' hF' hb hd;have e28:=tE hd 0 rfl;exact dv0 (aq e28 ao ab (aw (aX (c:=true) (by decide)) (by simp))) rfl rfl rfl),(by intro a' w' hF' hb hd;have e29:=tE hd 0 rfl;exact dv0 (aP e29) rfl rfl rfl),(by intro a' w' hF' hb hd;have e30:=tE hd 0 rfl;exact dv1 (aa rfl rfl e30 rfl) (av (hF'.at 1 rfl) (cD ah ((st.bk 1 rfl).below hb) rfl)) rfl rfl),(by intro a' w' hF' hb hd;have e30:=tE hd 1 rfl;have e31:=tE hd 0 rfl;exact j0 (aa rfl rfl e30 rfl) (rk It (aI e31)) (iV _ _ 3 _ (hT.below (ar st.bel hb)) ((st.f 1 rfl).below hb).1 ((st.f 1 rfl).below hb).2 (by omega) (by omega) (by omega)) (fun _=>rfl) rfl),(by intro a' w' hF' hb hd;have e30:=tE hd 0 rfl;exact dv1 (aa rfl rfl e30 rfl) (av (hF'.at 0 rfl) (cD ag ((st.bk 0 rfl).below hb) rfl)) rfl rfl),(by intro a' w' hF' hb hd;have e30:=tE hd 2 rfl;have e33:=tE hd 0 rfl;exact j0 (aa rfl rfl e30 rfl) (rk Im (aI e33)) (mM _ _ 120 3 _ ((st.f 0 rfl).below hb).1 ((st.f 0 rfl).below hb).2 (by omega) (by omega) (by omega) (by omega) (by omega)) (fun _=>rfl) rfl),(by intro a' w' hF' hb hd;have e30:=tE hd 2 rfl;have e32:=tE hd 0 rfl;have e34:=tE hd 1 rfl;exact dv1 (aa rfl rfl e30 rfl) (aq e32 e34 ab (aw (aX (c:=true) (by simp)) (by simp))) rfl rfl),(by intro a' w' hF' hb hd;have e30:=tE hd 0 rfl;have e35:=tE hd 1 rfl;exact dv0 (aN e30 e35) rfl rfl rfl),(by intro a' w' hF' hb hd;have e36:=tE hd 0 rfl;exact dv0 (aP e36) rfl rfl rfl),(by intro a' w' hF' hb hd;have e37:=tE hd 0 rfl;exact dv1 (aa rfl rfl e37 rfl) (aP (hF'.at 11 rfl)) rfl rfl),(by intro a' w' hF' hb hd;have e37:=tE hd 0 rfl;exact dv1 (aa rfl rfl e37 rfl) (aP (hF'.at 4 rfl)) rfl rfl),(by intro a' w' hF' hb hd;have e37:=tE hd 0 rfl;exact dv1 (aa rfl rfl e37 rfl) (av (hF'.at 5 rfl) (cD be ((st.bk 2 rfl).below hb) rfl)) rfl rfl),(by intro a' w' hF' hb hd;have e37:=tE hd 3 rfl;have e38:=tE hd 0 rfl;have e39:=tE hd 1 rfl;have e40:=tE hd 2 rfl;exact j0 (aa rfl rfl e37 rfl) (rk II (eB e38 e39 e40)) (wU r ny pa pb pc pd _ (hT.below (ar st.bel hb)) (by first|assumption|exact⟨by omega,by omega,by omega,by omega,by omega,by omega,by omega,by omega⟩) (by omega) (by omega)) (fun _=>rfl) rfl),(by intro a' w' hF' hb hd;have e37:=tE hd 0 rfl;exact dv1 (aa rfl rfl e37 rfl) (av (hF'.at 0 rfl) (cD ag ((st.bk 0 rfl).below hb) rfl)) rfl rfl),trivial⟩ ?_
 intro a w14 hF bb hall
 replace st:=st.to bb
 replace hF:=rE hall hF 11 rfl rfl
 replace hF:=rE hall hF 15 rfl rfl
 replace hF:=rE hall hF 16 rfl rfl
 clear hall bb
 refine S.callxg st hF (aa rfl rfl (hF.at 2 rfl) rfl) (rgc k23 (aI (hF.at 0 rfl))) (fJ _ _ 120 3 _ (st.f 0 rfl).1 (st.f 0 rfl).2 (by omega) (by omega) (by omega)) rfl rfl rfl fun w15 a st hF=>?_
 refine E.opvg hF (aq (hF.at 2 rfl) (hF.at 0 rfl) ab (aw (aX (c:=true) (by simp)) (by simp))) (aa rfl rfl (hF.at 3 rfl) rfl) rfl rfl rfl fun a hF=>?_
 refine oV hF (aN (hF.at 4 rfl) (hF.at 0 rfl)) rfl fun a hF=>?_
 refine oE hF 0 rfl rfl fun a hF=>?_
 refine nr ?_
 have bel:=st.bel
 refine rt Tryz.results3 hF 0 rfl ?_
 exact⟨rfl,bel⟩
end Go.Proofs.YtnljadejcfgmaaaGreatDoor
