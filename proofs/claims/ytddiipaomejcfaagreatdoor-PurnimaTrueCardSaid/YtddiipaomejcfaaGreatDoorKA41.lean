import Derived.Test.YtddiipaomejcfaaGreatDoorKA40
namespace Go.Proofs.YtddiipaomejcfaaGreatDoor
open Go.RowKit
set_option maxRecDepth 100000
set_option linter.unusedVariables false
set_option maxHeartbeats 8000000
theorem yB (wa wb wc wd:Int) (w:World):
 CV 15 #[.agg #[iv wa,iv wb,iv wc,iv wd]] w (.agg #[iv (gA 60 120 wa wb),iv (gB wb),iv (gA 180 360 wc wd),iv (gB wd)]):=by
 refine gs1 (nt:=12) Tryz.func15 rfl rfl rfl fun a st hF=>wq<|bx st hF 0 rfl rfl fun g1 w1 a st hF=>S.alloc st hF aM rfl rfl fun g2 w2 a st hF=>nq<|oV hF (az hF.p (yQ (p:=0) rfl)) rfl fun a hF=>oV hF (aw hF.o (bG (v:= iv wa) (st.bk 1 rfl) rfl)) rfl fun a hF=>oV hF (az (hF.at 3 rfl) (As (p:=1) rfl)) rfl fun a hF=>oV hF (aw hF.o (bG (v:= iv wb) (st.bk 1 rfl) rfl)) rfl fun a hF=>oV hF (az (hF.at 5 rfl) (zk (p:=2) rfl)) rfl fun a hF=>oV hF (aw hF.o (bG (v:= iv wc) (st.bk 1 rfl) rfl)) rfl fun a hF=>oV hF (az (hF.at 7 rfl) (AH (p:=3) rfl)) rfl fun a hF=>?_
 refine oV hF (aw hF.o (bG (v:= iv wd) (st.bk 1 rfl) rfl)) rfl fun a hF=>cX st hF (rgc k42 (zi (hF.at 6 rfl) (hF.at 4 rfl) hF.q hF.o)) (zh wa wb wc wd _) rfl fun w3 a st hF=>?_
 have hg1:=ku wb
 have hg2:=pE wa wb
 have hg3:=ku wd
 have hg4:=oO wc wd
 have hok9250:=gL wa wb wc wd
 refine S.stoI st hF 0 rfl (hF.at 9 rfl) hF.o aM rfl rfl rfl fun w4 a st hF=>nr<|rs Tryz.results15 st hF 9 0 aM rfl rfl rfl ?_
 exact⟨rfl,st.bel⟩
theorem gQ {wa wb wc wd pa pb pc pd:Int} (w:World) (ha:gA 60 120 wa wb=pa) (hb:gB wb=pb) (hc:gA 180 360 wc wd=pc) (hd:gB wd=pd):CV 15 #[.agg #[iv wa,iv wb,iv wc,iv wd]] w (.agg #[iv pa,iv pb,iv pc,iv pd]):=by
 subst ha hb hc hd
 exact yB wa wb wc wd w
theorem k6 {n z:Int} (w:World) (h:inD n=z):CV 14 #[iv n] w (iv z):=by
 subst h
 exact Ci n w
theorem vr (y m:Int) (l:Bool) (x:Int) (u:Bool) (xa xb xc xd:Int) (w:World) (n e:Int) (hT:a8 w) (hok:bz xa xb xc xd) (hy0: -9000<=y) (hy1:y<=9000) (hm0:1<=m) (hm1:m<=12) (hx0:1<=x) (hx1:x<=30) (h1:fdN xa xb xc xd y m l x u=n) (h2:fdE xa xb xc xd y m l x u=e):
 CV 17 #[.agg #[iv y,iv m,.bool l,iv x,.bool u],.agg #[iv xa,iv xb,iv xc,iv xd]] w (.tuple #[iv n,iv e]):=by
 subst h1 h2
 exact fj y m l x u xa xb xc xd w hT hok hy0 hy1 hm0 hm1 hx0 hx1
theorem qf (z10:Int) (z30:Int) (w:World):(Instr.build 29 #[(1,iv z10),(3,iv z30)]).run Tryz.prog w= .ok (.agg #[iv 0,iv z10,.bool false,iv z30,.bool false]) w:=by
 have hz:=cL nO w
 have h_bool:∀w,(sizeOf 4).run Tryz.prog w= .ok 1 w:=fun w=>bh cV w
 have h_int:∀w,(sizeOf 3).run Tryz.prog w= .ok 1 w:=fun w=>bh cT w
 have h_i64:∀w,(sizeOf 2).run Tryz.prog w= .ok 1 w:=fun w=>bh cw w
 simp only [Instr.build,Sem.run_bind,hz,Result.andThen_ok,run_underlying Tryz.underlying29,List.mapM_toArray,List.mapM_cons,List.mapM_nil,Sem.run_map,h_bool,h_i64,h_int,Sem.run_pure]
 rfl
theorem jF (w:World) (hT:a8 w):
 CV 13 #[] w (.bool true):=by
 refine gs0 (nt:=15) Tryz.func13 rfl rfl fun a st hF=>wq ?_
 refine oC hF rfl fun a hF=>nq<|oV hF (bH (ju aq aq) (qf _ _ _)) rfl fun a hF=>cX st hF (rgc k41 fk) (pm _) rfl fun w1 a st hF=>cX st hF (rgc k17 (aH hF.p hF.o)) (vK 0 1 false 31 false 463 20 45461 600 _ (by decide+kernel)) rfl fun w2 a st hF=>?_
 refine oM hF 0 rfl rfl fun a hF=>oV hF (av (v:= iv 0) hF.o rfl) rfl fun a hF=>oV hF (av (v:= iv (d7 0 1 31 463 20 45461 600)) hF.p rfl) rfl fun a hF=>oA hF 1 rfl rfl fun a hF=>oA hF 1 rfl rfl fun a hF=>nq<|oM hF 0 rfl rfl fun a hF=>oT hF 0 (aD (c:=true) (aA (by decide+kernel))) rfl rfl fun a hF=>oM hF 0 rfl rfl fun a hF=>?_
 refine S.callxg st hF (aJ rfl rfl hF.o rfl) (rgc k25 (aH aq aq)) (ib (-3044) 2 _ (by omega) (by omega) (by omega) (by omega)) rfl rfl rfl fun w3 a st hF=>?_
 refine og hF (ao hF.o aq ah (aO (aD (c:=true) (aA (by decide+kernel))) (by simp))) 1 rfl rfl rfl fun a hF=>oV hF (aB hF.q hF.o) rfl fun a hF=>oE hF 0 rfl rfl fun a hF=>nr ?_
 have bel:=st.bel
 refine rt Tryz.results13 hF 0 rfl ?_
 exact⟨rfl,bel⟩
def r3 (k:Int):Int:=if k=0 then 1670 else if k=1 then 1795 else 1935
theorem findDays_walk (n wa wb wc wd:Int) (w:World) (hT:a8 w):
 CV 3 #[iv n,.agg #[iv wa,iv wb,iv wc,iv wd]] w (.bool true):=by
 obtain⟨pa,hpa⟩:∃z:Int,gA 60 120 wa wb=z:=⟨_,rfl⟩
 obtain⟨pb,hpb⟩:∃z:Int,gB wb=z:=⟨_,rfl⟩
 obtain⟨pc,hpc⟩:∃z:Int,gA 180 360 wc wd=z:=⟨_,rfl⟩
 obtain⟨pd,hpd⟩:∃z:Int,gB wd=z:=⟨_,rfl⟩
 have hok:bz pa pb pc pd:=by rw[<-hpa,<-hpb,<-hpc,<-hpd];exact gL wa wb wc wd
 have hp1:=hok.b0
 have hp2:=hok.b1
 have hp3:=hok.a0
 have hp4:=hok.a1
 have hp5:=hok.d0
 have hp6:=hok.d1
 have hp7:=hok.c0
 have hp8:=hok.c1
 obtain⟨ny,hny⟩:∃z:Int,inD n=z:=⟨_,rfl⟩
 have hin0:=k4 n
 rw[hny] at hin0
 obtain⟨X0,hX0⟩:∃z:Int,amX ny pa pb pc pd=z:=⟨_,rfl⟩
 obtain⟨L0,hL0⟩:∃z:Int,amL ny pa pb pc pd=z:=⟨_,rfl⟩
 obtain⟨X9,hX9⟩:∃z:Int,amX (ny-1) pa pb pc pd=z:=⟨_,rfl⟩
 obtain⟨L9,hL9⟩:∃z:Int,amL (ny-1) pa pb pc pd=z:=⟨_,rfl⟩
 have hys:=qB hok (by omega) (by omega) hL0
 have hbk:=Cp hok (n:=ny) (by omega) (by omega) hL0 hX0 hX9
 refine gs2 (nt:=40) Tryz.func3 rfl rfl rfl fun a st hF=>wq<|bx st hF 1 rfl rfl fun g3 w1 a st hF=>?_
 refine oC hF rfl fun a hF=>ns<|wq<|cX st hF (rgc k13 fk) (jF _ (hT.below st.bel)) rfl fun w2 a st hF=>oV hF (dc hF.o (b7 _ false rfl)) rfl fun a hF=>E.nil<|wp_cond_false hF.o<|wp_skip<|E.norm<|wp_seq ?_
 refine E.rga 6 aP hF [13,14,15,16,6,5] [_,_,_,_,kb w2 [iv 0,iv 0,iv 0,iv 0],.ex (iv ny)] [4] ⟨fun _ _ ⟨g,e,_,o⟩=>⟨g,e,o.lt⟩,trivial⟩ (by decide+kernel) rfl rfl rfl ⟨rm 4 rfl,ck st k14 rfl fun _ s=>a9 (k6 _ hny),rb st j5 3 0 rfl,ck st k15 rfl fun _ s=>a9 (gQ _ hpa hpb hpc hpd),rai aM rfl,(by intro a' w' hF' hb hd;have e14:=tE hd 0 rfl;exact dv0 (a5 e14) rfl rfl rfl),trivial⟩ ?_
 intro a w3 hF bb hall hne
 have s0:=st
 replace st:=st.to bb
 replace hF:=rE hall hF 3 rfl rfl
 obtain⟨_,e6,g6,rfl,ge6,o6⟩:=sS hall 4 6 rfl rfl
 replace st:=st.push o6 (Nat.le_trans s0.bel.size ge6) (s0.ne ge6)
 clear o6
 replace hF:=hF.add e6
 replace hF:=rE hall hF 5 rfl rfl
 clear hall bb hne s0
 refine S.stoI st hF 0 rfl hF.p hF.q aM rfl rfl rfl fun w4 a st hF=>nq<|oM hF 0 rfl rfl fun a hF=>oL hF st 2 0 aM rfl rfl rfl rfl fun a hF=>cX st hF (rgc k16 (aH hF.p hF.o)) (fh ny pa pb pc pd L0 X0 X9 _ (hT.below st.bel) (by first|assumption|constructor<;>omega) (by omega) (by omega) hL0 hX0 hX9) rfl fun w5 a st hF=>oM hF 0 rfl rfl fun a hF=>oV hF (av (v:= .agg #[iv ((smV L0+1)/12-1955883044),iv ((smV L0+1)%12+1),.bool (decide (smV (ag L0)=smV L0)),iv (X0%30+1),.bool (decide (X9=X0))]) hF.o rfl) rfl fun a hF=>oV hF (av (v:= iv 0) hF.p rfl) rfl fun a hF=>S.new st hF 1 rfl aG rfl rfl rfl rfl rfl fun g7 w6 a st hF=>?_
 refine oA hF 1 rfl rfl fun a hF=>nq<|oL hF st 1 0 aG rfl rfl rfl rfl fun a hF=>oL hF st 10 1 aM rfl rfl rfl rfl fun a hF=>cX st hF (rgc k17 (aH hF.p hF.o)) (vr ((smV L0+1)/12-1955883044) ((smV L0+1)%12+1) (decide (smV (ag L0)=smV L0)) (X0%30+1) (decide (X9=X0)) pa pb pc pd _ ny 0 (hT.below st.bel) (by first|assumption|constructor<;>omega) (by omega) (by omega) (by omega) (by omega) (by omega) (by omega) hbk.1 hbk.2) rfl fun w7 a st hF=>?_
 refine oM hF 0 rfl rfl fun a hF=>oV hF (av (v:= iv ny) hF.o rfl) rfl fun a hF=>oV hF (av (v:= iv 0) hF.p rfl) rfl fun a hF=>oA hF 1 rfl rfl fun a hF=>oA hF 1 rfl rfl fun a hF=>nq<|oM hF 8 rfl rfl fun a hF=>oT hF 0 (aD (c:=true) (by decide)) rfl rfl fun a hF=>oM hF 0 rfl rfl fun a hF=>og hF (aC (hF.at 3 rfl)) 0 rfl rfl rfl fun a hF=>og hF (ao hF.o aq ah (aO (aD (c:=true) (by decide)) (by simp))) 1 rfl rfl rfl fun a hF=>oV hF (aB hF.q hF.o) rfl fun a hF=>oM hF 0 rfl rfl fun a hF=>?_
 refine og hF (aC (hF.at 8 rfl)) 0 rfl rfl rfl fun a hF=>og hF (aC (hF.at 24 rfl)) 1 rfl rfl rfl fun a hF=>og hF (ao hF.p hF.o ah (aO (aD (c:=true) (by simp)) (by simp))) 2 rfl rfl rfl fun a hF=>oV hF (aB (hF.at 3 rfl) hF.o) rfl fun a hF=>oE hF 0 rfl rfl fun a hF=>nr ?_
 have bel:=st.bel
 refine rt Tryz.results3 hF 0 rfl ?_
 exact⟨rfl,bel⟩
theorem vV (y m:Int) (l:Bool) (x:Int) (u:Bool) (xa xb xc xd:Int) (w:World) (n e:Int) (hT:a8 w) (hok:bz xa xb xc xd) (hy0: -9000<=y) (hy1:y<=9000) (hm0:1<=m) (hm1:m<=12) (hx0:1<=x) (hx1:x<=30) (h1:puN xa xb xc xd y m l x u=n) (h2:puE xa xb xc xd y m l x u=e):
 CV 36 #[.agg #[iv y,iv m,.bool l,iv x,.bool u],.agg #[iv xa,iv xb,iv xc,iv xd]] w (.tuple #[iv n,iv e]):=by
 subst h1 h2
 exact fu y m l x u xa xb xc xd w hT hok hy0 hy1 hm0 hm1 hx0 hx1
theorem hJ (w:World) (hT:a8 w):
 CV 32 #[] w (.bool true):=by
 refine gs0 (nt:=24) Tryz.func32 rfl rfl fun a st hF=>wq ?_
 refine oC hF rfl fun a hF=>nq<|oV hF (bH (ju aq aq) (qf _ _ _)) rfl fun a hF=>cX st hF (rgc k41 fk) (pm _) rfl fun w1 a st hF=>cX st hF (rgc k36 (aH hF.p hF.o)) (nQ 0 1 false 31 false 463 20 45461 600 _ (by decide+kernel)) rfl fun w2 a st hF=>?_
 refine oM hF 0 rfl rfl fun a hF=>oV hF (av (v:= iv 0) hF.o rfl) rfl fun a hF=>oV hF (av (v:= iv (d7 0 1 31 463 20 45461 600)) hF.p rfl) rfl fun a hF=>oA hF 1 rfl rfl fun a hF=>oA hF 1 rfl rfl fun a hF=>nq<|oV hF (bH (by simp) (Co _)) rfl fun a hF=>cX st hF (rgc k33 (aH aq hF.o)) (yH 0 0 0 0 0 _ (by decide+kernel)) rfl fun w3 a st hF=>oM hF 0 rfl rfl fun a hF=>oV hF (av (v:= .agg #[iv 0,iv 0,.bool false,iv 0,.bool false]) hF.o rfl) rfl fun a hF=>oV hF (av (v:= iv (plE 0 0 0 0)) hF.p rfl) rfl fun a hF=>?_
 refine S.new st hF 1 rfl aG rfl rfl rfl rfl rfl fun g3 w4 a st hF=>?_
 refine oA hF 1 rfl rfl fun a hF=>nq<|oM hF 7 rfl rfl fun a hF=>oT hF 0 (aD (c:=true) (aA (by decide+kernel))) rfl rfl fun a hF=>oM hF 0 rfl rfl fun a hF=>og hF (aC (hF.at 3 rfl)) 0 rfl rfl rfl fun a hF=>og hF (ao hF.o aq ah (aO (aD (c:=true) (aA (by decide+kernel))) (by simp))) 1 rfl rfl rfl fun a hF=>oV hF (aB hF.q hF.o) rfl fun a hF=>oM hF 0 rfl rfl fun a hF=>?_
 refine oV hF (aB hF.o aq) rfl fun a hF=>oE hF 0 rfl rfl fun a hF=>nr ?_
 have bel:=st.bel
 refine rt Tryz.results32 hF 0 rfl ?_
 exact⟨rfl,bel⟩
theorem tU {P:Program} {w:World} {t:TypeId} {y0 y:Int} (h:(if 0<=y0 then y0%1099511627776 else -(-y0%1099511627776))=y):(binOp .rem t (iv y0) (iv 1099511627776)).run P w= .ok (iv y) w:=by
 subst h
 exact fU (by decide)
theorem purnimaBad_walk (y m:Int) (l:Bool) (x:Int) (u:Bool) (xa xb xc xd:Int) (w:World) (hT:a8 w):
 CV 12 #[.agg #[iv y,iv m,.bool l,iv x,.bool u],.agg #[iv xa,iv xb,iv xc,iv xd]] w (.bool true):=by
 obtain⟨pa,ha⟩:∃z:Int,(if 0<=xa then xa%1099511627776 else -(-xa%1099511627776))=z:=⟨_,rfl⟩
 obtain⟨pc,hc⟩:∃z:Int,(if 0<=xc then xc%1099511627776 else -(-xc%1099511627776))=z:=⟨_,rfl⟩
 have hab:=jb (k:=xa) (n:=1099511627776) (by decide)
 rw[ha] at hab
 have hcb:=jb (k:=xc) (n:=1099511627776) (by decide)
 rw[hc] at hcb
 refine gs2 (nt:=36) Tryz.func12 rfl rfl rfl fun a st hF=>wq<|bx st hF 0 rfl rfl fun g2 w1 a st hF=>bx st hF 2 rfl rfl fun g3 w2 a st hF=>?_
 refine oC hF rfl fun a hF=>ns<|wq<|cX st hF (rgc k32 fk) (hJ _ (hT.below st.bel)) rfl fun w3 a st hF=>oV hF (dc hF.o (b7 _ false rfl)) rfl fun a hF=>E.nil<|wp_cond_false hF.o<|wp_skip<|E.norm<|wq<|oV hF (az (hF.at 3 rfl) (kL (p:=0) rfl)) rfl fun a hF=>oV hF (aw hF.o (bG (v:= iv xa) (st.bk 0 rfl) rfl)) rfl fun a hF=>oV hF (ao hF.o aq ah (tU ha)) rfl fun a hF=>oV hF (az (hF.at 6 rfl) (kj (p:=2) rfl)) rfl fun a hF=>oV hF (aw hF.o (bG (v:= iv xc) (st.bk 0 rfl) rfl)) rfl fun a hF=>oV hF (ao hF.o aq ah (tU hc)) rfl fun a hF=>oV hF (az (hF.at 9 rfl) (kL (p:=0) rfl)) rfl fun a hF=>?_
 refine S.stooI (o:=0) (vs:=[iv pa]) (ws:=[iv pa,iv xb,iv xc,iv xd]) st hF 0 rfl hF.o (hF.at 4 rfl) rfl cw rfl rfl rfl rfl fun w4 a st hF=>?_
 refine oV hF (az (hF.at 10 rfl) (kj (p:=2) rfl)) rfl fun a hF=>?_
 refine S.stooI (o:=2) (vs:=[iv pc]) (ws:=[iv pa,iv xb,iv pc,iv xd]) st hF 0 rfl hF.o hF.q rfl cw rfl rfl rfl rfl fun w5 a st hF=>?_
 refine nq<|oL hF st 12 1 aG rfl rfl rfl rfl fun a hF=>oL hF st 12 0 aM rfl rfl rfl rfl fun a hF=>cX st hF (rgc k18 (aH hF.p hF.o)) (ix y m l x u pa xb pc xd _) rfl fun w6 a st hF=>?_
 refine oA hF 0 rfl rfl fun a hF=>ns<|wq<|oM hF 0 rfl rfl fun a hF=>?_
 by_cases hc7:d7 y m x pa xb pc xd=0
 ·refine oT hF 0 (aD (c:=true) (aA (hc7))) rfl rfl fun a hF=>E.nil<|wp_cond_true hF.o<|wq ?_
  refine oS hF (a5 aq) rfl fun a hF=>nr ?_
  have bel:=st.bel
  refine rt Tryz.results12 hF 0 rfl ?_
  exact⟨rfl,bel⟩
 ·refine oT hF 0 (aD (c:=false) (aK (hc7))) rfl rfl fun a hF=>E.nil<|wp_cond_false hF.o<|wp_skip<|E.norm<|wq<|oL hF st 18 1 aG rfl rfl rfl rfl fun a hF=>oL hF st 18 0 aM rfl rfl rfl rfl fun a hF=>cX st hF (rgc k36 (aH hF.p hF.o)) (nQ y m l x u pa xb pc xd _ hc7) rfl fun w8 a st hF=>?_
  refine oM hF 0 rfl rfl fun a hF=>oV hF (av (v:= iv 0) hF.o rfl) rfl fun a hF=>oV hF (av (v:= iv (d7 y m x pa xb pc xd)) hF.p rfl) rfl fun a hF=>oA hF 1 rfl rfl fun a hF=>oA hF 1 rfl rfl fun a hF=>nq<|oM hF 0 rfl rfl fun a hF=>oM hF 11 rfl rfl fun a hF=>oU hF 1 0 (aD (c:=true) (by simp)) rfl rfl rfl fun a hF=>oM hF 0 rfl rfl fun a hF=>og hF (aC (hF.at 5 rfl)) 0 rfl rfl rfl fun a hF=>og hF (ao hF.o aq ah (aO (aD (c:=true) (by decide)) (by simp))) 1 rfl rfl rfl fun a hF=>oV hF (aB hF.q hF.o) rfl fun a hF=>?_
  refine oE hF 0 rfl rfl fun a hF=>nr ?_
  have bel:=st.bel
  refine rt Tryz.results12 hF 0 rfl ?_
  exact⟨rfl,bel⟩
theorem purnimaBack_walk (n wa wb wc wd:Int) (w:World) (hT:a8 w):
 CV 9 #[iv n,.agg #[iv wa,iv wb,iv wc,iv wd]] w (.bool true):=by
 obtain⟨pa,hpa⟩:∃z:Int,gA 60 120 wa wb=z:=⟨_,rfl⟩
 obtain⟨pb,hpb⟩:∃z:Int,gB wb=z:=⟨_,rfl⟩
 obtain⟨pc,hpc⟩:∃z:Int,gA 180 360 wc wd=z:=⟨_,rfl⟩
 obtain⟨pd,hpd⟩:∃z:Int,gB wd=z:=⟨_,rfl⟩
 have hok:bz pa pb pc pd:=by rw[<-hpa,<-hpb,<-hpc,<-hpd];exact gL wa wb wc wd
 have hp1:=hok.b0
 have hp2:=hok.b1
 have hp3:=hok.a0
 have hp4:=hok.a1
 have hp5:=hok.d0
 have hp6:=hok.d1
 have hp7:=hok.c0
 have hp8:=hok.c1
 obtain⟨ny,hny⟩:∃z:Int,inD n=z:=⟨_,rfl⟩
 have hin0:=k4 n
 rw[hny] at hin0
 obtain⟨X0,hX0⟩:∃z:Int,amX ny pa pb pc pd=z:=⟨_,rfl⟩
 obtain⟨L0,hL0⟩:∃z:Int,amL ny pa pb pc pd=z:=⟨_,rfl⟩
 obtain⟨X9,hX9⟩:∃z:Int,amX (ny-1) pa pb pc pd=z:=⟨_,rfl⟩
 obtain⟨L9,hL9⟩:∃z:Int,amL (ny-1) pa pb pc pd=z:=⟨_,rfl⟩
 have hys:=qB hok (by omega) (by omega) hL0
 have hpub:=wg L0 X0
 have hbk:=CT hok (n:=ny) (by omega) (by omega) hL0 hX0 hX9
 refine gs2 (nt:=30) Tryz.func9 rfl rfl rfl fun a st hF=>wq<|bx st hF 1 rfl rfl fun g3 w1 a st hF=>?_
 refine oC hF rfl fun a hF=>ns<|wq<|cX st hF (rgc k32 fk) (hJ _ (hT.below st.bel)) rfl fun w2 a st hF=>oV hF (dc hF.o (b7 _ false rfl)) rfl fun a hF=>E.nil<|wp_cond_false hF.o<|wp_skip<|E.norm<|wp_seq ?_
 refine E.rga 6 aP hF [11,12,13,14,6,5] [_,_,_,_,kb w2 [iv 0,iv 0,iv 0,iv 0],.ex (iv ny)] [4] ⟨fun _ _ ⟨g,e,_,o⟩=>⟨g,e,o.lt⟩,trivial⟩ (by decide+kernel) rfl rfl rfl ⟨rm 4 rfl,ck st k14 rfl fun _ s=>a9 (k6 _ hny),rb st j5 3 0 rfl,ck st k15 rfl fun _ s=>a9 (gQ _ hpa hpb hpc hpd),rai aM rfl,(by intro a' w' hF' hb hd;have e12:=tE hd 0 rfl;exact dv0 (a5 e12) rfl rfl rfl),trivial⟩ ?_
 intro a w3 hF bb hall hne
 have s0:=st
 replace st:=st.to bb
 replace hF:=rE hall hF 3 rfl rfl
 obtain⟨_,e6,g6,rfl,ge6,o6⟩:=sS hall 4 6 rfl rfl
 replace st:=st.push o6 (Nat.le_trans s0.bel.size ge6) (s0.ne ge6)
 clear o6
 replace hF:=hF.add e6
 replace hF:=rE hall hF 5 rfl rfl
 clear hall bb hne s0
 refine S.stoI st hF 0 rfl hF.p hF.q aM rfl rfl rfl fun w4 a st hF=>ns ?_
 refine E.rg 10 aP hF [16,17,18,19,20,15,21,22,7,8] [_,_,_,_,_,.ex (.tuple #[iv ny,iv 0]),.ex (iv ny),.ex (iv 0),.ex (iv ny),.ex (iv 0)] (by decide+kernel) rfl rfl rfl ⟨rm 0 rfl,rb st aM 1 0 rfl,ck st k35 rfl fun _ s=>a9 (ie ny pa pb pc pd L0 X0 X9 _ (hT.below s.bel) (by first|assumption|constructor<;>omega) (by omega) (by omega) hL0 hX0 hX9),rb st aM 1 0 rfl,ck st k36 rfl fun _ s=>a9 (vV ((smV L0+1)/12-1955883044) (puM L0 X0) (decide (smV (ag L0)=smV L0)) (X0%30+1) (decide (X9=X0)) pa pb pc pd _ ny 0 (hT.below s.bel) (by first|assumption|constructor<;>omega) (by omega) (by omega) (by omega) (by omega) (by omega) (by omega) hbk.1 hbk.2),(by intro a' w' hF' hb hd;have e20:=tE hd 0 rfl;exact dv0 (aC e20) rfl rfl rfl),(by intro a' w' hF' hb hd;have e15:=tE hd 0 rfl;exact dv0 (av (v:= iv ny) e15 rfl) rfl rfl rfl),(by intro a' w' hF' hb hd;have e15:=tE hd 0 rfl;exact dv0 (av (v:= iv 0) e15 rfl) rfl rfl rfl),(by intro a' w' hF' hb hd;have e21:=tE hd 0 rfl;exact dv0 (a5 e21) rfl rfl rfl),(by intro a' w' hF' hb hd;have e22:=tE hd 0 rfl;exact dv0 (a5 e22) rfl rfl rfl),trivial⟩ ?_
 intro a w5 hF bb hall
 replace st:=st.to bb
 replace hF:=rE hall hF 8 rfl rfl
 replace hF:=rE hall hF 9 rfl rfl
 clear hall bb
 refine nq<|oM hF 0 rfl rfl fun a hF=>oT hF 0 (aD (c:=true) (by decide)) rfl rfl fun a hF=>oM hF 0 rfl rfl fun a hF=>og hF (aC (hF.at 4 rfl)) 0 rfl rfl rfl fun a hF=>og hF (aC (hF.at 6 rfl)) 1 rfl rfl rfl fun a hF=>og hF (ao hF.p hF.o ah (aO (aD (c:=true) (by simp)) (by simp))) 2 rfl rfl rfl fun a hF=>oV hF (aB (hF.at 3 rfl) hF.o) rfl fun a hF=>?_
 refine oE hF 0 rfl rfl fun a hF=>nr ?_
 have bel:=st.bel
 refine rt Tryz.results9 hF 0 rfl ?_
 exact⟨rfl,bel⟩
theorem CH {s t:Int} (h0:0<=s) (h1:s<=11):0<loV s t↔t=(s+2)%12:=by
 unfold loV
 split <;> omega
theorem purnimaHalves_walk (n wa wb wc wd:Int) (w:World) (hT:a8 w):
 CV 10 #[iv n,.agg #[iv wa,iv wb,iv wc,iv wd]] w (.bool true):=by
 obtain⟨pa,hpa⟩:∃z:Int,gA 60 120 wa wb=z:=⟨_,rfl⟩
 obtain⟨pb,hpb⟩:∃z:Int,gB wb=z:=⟨_,rfl⟩
 obtain⟨pc,hpc⟩:∃z:Int,gA 180 360 wc wd=z:=⟨_,rfl⟩
 obtain⟨pd,hpd⟩:∃z:Int,gB wd=z:=⟨_,rfl⟩
 have hok:bz pa pb pc pd:=by rw[<-hpa,<-hpb,<-hpc,<-hpd];exact gL wa wb wc wd
 have hp1:=hok.b0
 have hp2:=hok.b1
 have hp3:=hok.a0
 have hp4:=hok.a1
 have hp5:=hok.d0
 have hp6:=hok.d1
 have hp7:=hok.c0
 have hp8:=hok.c1
 obtain⟨ny,hny⟩:∃z:Int,inD n=z:=⟨_,rfl⟩
 have hin0:=k4 n
 rw[hny] at hin0
 obtain⟨X0,hX0⟩:∃z:Int,amX ny pa pb pc pd=z:=⟨_,rfl⟩
 obtain⟨L0,hL0⟩:∃z:Int,amL ny pa pb pc pd=z:=⟨_,rfl⟩
 obtain⟨X9,hX9⟩:∃z:Int,amX (ny-1) pa pb pc pd=z:=⟨_,rfl⟩
 obtain⟨L9,hL9⟩:∃z:Int,amL (ny-1) pa pb pc pd=z:=⟨_,rfl⟩
 have hpm:=rx L0 X0
 have hsm0:=fc (dA ny pa pb pc pd)
 rw[hL0] at hsm0
 have hnr:=jV hok ny
 rw[hL0] at hnr
 have hns:=bJ (dA ny pa pb pc pd)
 rw[hL0] at hns
 have hnx:=hns.2.1
 have hcx:=hns.2.2.1
 clear hns
 have hlo:(loV (smV L0%12) (smV (ag L0)%12)=0\/0<loV (smV L0%12) (smV (ag L0)%12)):=by unfold loV;split <;> omega
 have hlp:=CH (s:=smV L0%12) (t:=smV (ag L0)%12) (by omega) (by omega)
 refine gs2 (nt:=81) Tryz.func10 rfl rfl rfl fun a st hF=>wq<|bx st hF 1 rfl rfl fun g3 w1 a st hF=>?_
 refine oC hF rfl fun a hF=>ns<|wq<|cX st hF (rgc k32 fk) (hJ _ (hT.below st.bel)) rfl fun w2 a st hF=>oV hF (dc hF.o (b7 _ false rfl)) rfl fun a hF=>E.nil<|wp_cond_false hF.o<|wp_skip<|E.norm<|wp_seq ?_
 refine E.rga 6 aP hF [13,14,15,16,6,5] [_,_,_,_,kb w2 [iv 0,iv 0,iv 0,iv 0],.ex (iv ny)] [4] ⟨fun _ _ ⟨g,e,_,o⟩=>⟨g,e,o.lt⟩,trivial⟩ (by decide+kernel) rfl rfl rfl ⟨rm 4 rfl,ck st k14 rfl fun _ s=>a9 (k6 _ hny),rb st j5 3 0 rfl,ck st k15 rfl fun _ s=>a9 (gQ _ hpa hpb hpc hpd),rai aM rfl,(by intro a' w' hF' hb hd;have e14:=tE hd 0 rfl;exact dv0 (a5 e14) rfl rfl rfl),trivial⟩ ?_
 intro a w3 hF bb hall hne
 have s0:=st
 replace st:=st.to bb
 replace hF:=rE hall hF 3 rfl rfl
 obtain⟨_,e6,g6,rfl,ge6,o6⟩:=sS hall 4 6 rfl rfl
 replace st:=st.push o6 (Nat.le_trans s0.bel.size ge6) (s0.ne ge6)
 clear o6
 replace hF:=hF.add e6
 replace hF:=rE hall hF 5 rfl rfl
 clear hall bb hne s0
 refine S.stoI st hF 0 rfl hF.p hF.q aM rfl rfl rfl fun w4 a st hF=>ns ?_
 refine E.rga 8 aP hF [17,18,19,20,21,22,7,8] [_,_,_,_,_,_,kb w4 [iv 0,iv 0,.bool false,iv 0,.bool false],kb w4 [iv 0,iv 0,.bool false,iv 0,.bool false]] [6,7] ⟨fun _ _ ⟨g,e,_,o⟩=>⟨g,e,o.lt⟩,⟨fun _ _ ⟨g,e,_,o⟩=>⟨g,e,o.lt⟩,trivial⟩⟩ (by decide+kernel) rfl rfl rfl ⟨rm 0 rfl,rb st aM 1 0 rfl,ck st k22 rfl fun _ s=>a9 (fT ny pa pb pc pd L0 X0 X9 _ (hT.below s.bel) (by first|assumption|constructor<;>omega) (by omega) (by omega) hL0 hX0 hX9),rm 0 rfl,rb st aM 1 0 rfl,ck st k35 rfl fun _ s=>a9 (ie ny pa pb pc pd L0 X0 X9 _ (hT.below s.bel) (by first|assumption|constructor<;>omega) (by omega) (by omega) hL0 hX0 hX9),rai aG rfl,rai aG rfl,trivial⟩ ?_
 intro a w5 hF bb hall hne
 have s0:=st
 replace st:=st.to bb
 replace hF:=rE hall hF 2 rfl rfl
 replace hF:=rE hall hF 5 rfl rfl
 obtain⟨_,e7,g7,rfl,ge7,o7⟩:=sS hall 6 7 rfl rfl
 replace st:=st.push o7 (Nat.le_trans s0.bel.size ge7) (s0.ne ge7)
 clear o7
 replace hF:=hF.add e7
 obtain⟨_,e8,g8,rfl,ge8,o8⟩:=sS hall 7 8 rfl rfl
 replace st:=st.push o8 (Nat.le_trans s0.bel.size ge8) (o9 (fun(e:g7=g8)=>hne 6 7 7 8 rfl rfl (by decide) rfl rfl (by rw[e7,e8,e])) (s0.ne ge8))
 clear o8
 replace hF:=hF.add e8
 clear hall bb hne s0
 refine S.stoI st hF 1 rfl hF.p (hF.at 3 rfl) aG rfl rfl rfl fun w6 a st hF=>S.stoI st hF 0 rfl hF.o hF.q aG rfl rfl rfl fun w7 a st hF=>nq<|oM hF 4 rfl rfl fun a hF=>oL hF st 6 2 aM rfl rfl rfl rfl fun a hF=>S.ck st hF (rgc k38 (aH hF.p hF.o)) (aN (fX ny pa pb pc pd _ (hT.below st.bel) (by first|assumption|constructor<;>omega) (by omega) (by omega)) (iX (by first|assumption|constructor<;>omega) (by omega) (by omega))) Rl.cl rfl fun vv9 w8 a st hF=>?_
 obtain⟨r11,rfl⟩:=Rq.fo (st.f 0 rfl).1
 refine cX st hF (rgc k37 (aL hF.o)) (oB _ (hT.below st.bel) (st.f 0 rfl).1 (st.f 0 rfl).2 (by omega) (by have:=l6 hok ny;omega) (by have:=l6 hok ny;omega) hL0) rfl fun w12 a st hF=>S.new st hF 0 rfl bw rfl rfl rfl rfl rfl fun g9 w13 a st hF=>nq<|oV hF (az (hF.at 5 rfl) (ce (p:=1) rfl)) rfl fun a hF=>oV hF (aw hF.o (bj (v:= iv (puM L0 X0)) (st.bk 1 rfl) rfl)) rfl fun a hF=>oV hF (az (hF.at 8 rfl) (ce (p:=1) rfl)) rfl fun a hF=>oV hF (aw hF.o (bj (v:= iv ((smV L0+1)%12+1)) (st.bk 2 rfl) rfl)) rfl fun a hF=>oV hF (ao hF.q hF.o ah (bT (by omega) (by omega))) rfl fun a hF=>oV hF (ao hF.o aq ah (aU (by omega) (by omega))) rfl fun a hF=>oV hF (ao hF.o aq ah (dT (a:=((puM L0 X0)-((smV L0+1)%12+1))+12) (b:=12) (by omega) (by omega))) rfl fun a hF=>?_
 refine oA hF 0 rfl rfl fun a hF=>ns<|wp_seq ?_
 refine E.rg 7 aP hF [34,35,36,37,38,39,40] [_,_,_,_,_,_,.ex (.bool false)] (by decide+kernel) rfl rfl rfl ⟨rb st bw 8 0 rfl,rfd 14 (fun _=>cS (p:=3) rfl) rfl,rld rfl fun _ hb=>(bj (v:= iv (X0%30+1)) ((st.bk 2 rfl).below hb) rfl),ck st k39 rfl fun _ s=>a9 (tj L0 (ag L0) (smV L0%12) (smV (ag L0)%12) (X0%30+1) _ (hT.below s.bel) (by omega) (by omega) (by omega) (by omega) hcx rfl),rfd 13 (fun _=>ce (p:=1) rfl) rfl,rld rfl fun _ hb=>(bj (v:= iv (puM L0 X0)) ((st.bk 1 rfl).below hb) rfl),(by intro a' w' hF' hb hd;have e37:=tE hd 0 rfl;have hpf:=j4 (X0%30+1) (smV L0%12) (smV (ag L0)%12);have e39:=tE hd 1 rfl;exact dv0 (ao e37 e39 ah (aO (bn (c:=false) (aK (fun e=>e (by omega)))) (by simp))) rfl rfl rfl),trivial⟩ ?_
 intro a w14 hF bb hall
 replace st:=st.to bb
 replace hF:=rE hall hF 6 rfl rfl
 clear hall bb
 refine E.nil<|wp_cond_false hF.o<|wp_skip<|E.norm<|wq<|oV hF (az (hF.at 15 rfl) (ce (p:=1) rfl)) rfl fun a hF=>oV hF (aw hF.o (bj (v:= iv ((smV L0+1)%12+1)) (st.bk 2 rfl) rfl)) rfl fun a hF=>oV hF (az (hF.at 16 rfl) (ce (p:=1) rfl)) rfl fun a hF=>?_
 refine S.stooI (o:=1) (vs:=[iv ((smV L0+1)%12+1)]) (ws:=[iv ((smV L0+1)/12-1955883044),iv ((smV L0+1)%12+1),.bool (decide (smV (ag L0)=smV L0)),iv (X0%30+1),.bool (decide (X9=X0))]) st hF 1 rfl hF.o hF.p rfl cT rfl rfl rfl rfl fun w15 a st hF=>?_
 refine ns<|wq<|oL hF st 18 2 aG rfl rfl rfl rfl fun a hF=>oL hF st 18 1 aG rfl rfl rfl rfl fun a hF=>oV hF (ao hF.p hF.o dq (CN (aA ⟨rfl,rfl,rfl,rfl,rfl⟩))) rfl fun a hF=>E.nil<|wp_cond_false hF.o<|wp_skip<|E.norm<|wp_seq<|wq<|oV hF (az (hF.at 21 rfl) (cS (p:=3) rfl)) rfl fun a hF=>oV hF (aw hF.o (bj (v:= iv (X0%30+1)) (st.bk 2 rfl) rfl)) rfl fun a hF=>?_
 by_cases hc16:15<X0%30+1
 ·refine oT hF 0 (bp (c:=false) (aK (by omega))) rfl rfl fun a hF=>E.nil<|wp_cond_false hF.o<|wp_skip<|E.norm<|wq<|oM hF 10 rfl rfl fun a hF=>?_
  by_cases hc17:smV (ag L0)=smV L0
  ·refine oT hF 0 (aD (c:=true) (aA (by omega))) rfl rfl fun a hF=>oM hF 0 rfl rfl fun a hF=>og hF (aw (hF.at 21 rfl) (aZ bw (st.bk 0 rfl) rfl)) 0 rfl rfl rfl fun a hF=>?_
   refine S.callxg st hF (aJ rfl rfl hF.p rfl) (rgc k27 (aL hF.o)) (fF L0 (ag L0) (smV L0%12) (smV (ag L0)%12) _) rfl rfl rfl fun w18 a st hF=>?_
   refine oV hF (aB hF.q hF.o) rfl fun a hF=>oM hF 0 rfl rfl fun a hF=>?_
   refine E.unwanted hF (aJ rfl rfl (Eq.trans hF.o (congrArg Value.bool (decide_eq_true (by omega)))) rfl) rfl rfl rfl fun a hF=>?_
   refine E.unwanted hF (aJ rfl rfl (Eq.trans hF.p (congrArg Value.bool (decide_eq_true (by omega)))) rfl) rfl rfl rfl fun a hF=>?_
   refine E.unwanted hF (aJ rfl rfl (Eq.trans hF.q (congrArg Value.bool (decide_eq_true (by omega)))) rfl) rfl rfl rfl fun a hF=>?_
   refine E.unwanted hF (b8 rfl rfl hF.o) rfl rfl rfl fun a hF=>?_
   refine E.unwanted hF (b8 rfl rfl hF.p) rfl rfl rfl fun a hF=>?_
   refine E.unwanted hF (b8 rfl rfl hF.q) rfl rfl rfl fun a hF=>?_
   refine E.unwanted hF (aJ rfl rfl (Eq.trans (hF.at 6 rfl) (congrArg Value.bool (decide_eq_true (by omega)))) rfl) rfl rfl rfl fun a hF=>?_
   refine E.unwanted hF (aJ rfl rfl (Eq.trans (hF.at 7 rfl) (congrArg Value.bool (decide_eq_true (by omega)))) rfl) rfl rfl rfl fun a hF=>?_
   refine E.unwanted hF (b8 rfl rfl hF.o) rfl rfl rfl fun a hF=>?_
   refine E.unwanted hF (b8 rfl rfl hF.p) rfl rfl rfl fun a hF=>?_
   refine E.unwanted hF (b8 rfl rfl hF.q) rfl rfl rfl fun a hF=>?_
   refine E.unwanted hF (aJ rfl rfl (Eq.trans (hF.at 11 rfl) (congrArg Value.bool (decide_eq_true (by omega)))) rfl) rfl rfl rfl fun a hF=>?_
   refine oV hF (aB (Eq.trans (hF.at 12 rfl) (congrArg Value.bool (decide_eq_true (by omega)))) aq) rfl fun a hF=>oM hF 0 rfl rfl fun a hF=>nu hF 0 rfl rfl rfl fun a hF=>nu hF 1 rfl rfl rfl fun a hF=>nu hF 2 rfl rfl rfl fun a hF=>?_
   refine E.unwanted hF (b8 rfl rfl hF.o) rfl rfl rfl fun a hF=>?_
   refine E.unwanted hF (b8 rfl rfl hF.p) rfl rfl rfl fun a hF=>?_
   refine E.unwanted hF (b8 rfl rfl hF.q) rfl rfl rfl fun a hF=>?_
   refine nu hF 6 rfl rfl rfl fun a hF=>oV hF (aB (hF.at 7 rfl) aq) rfl fun a hF=>oE hF 0 rfl rfl fun a hF=>nr ?_
   have bel:=st.bel
   refine rt Tryz.results10 hF 0 rfl ?_
   exact⟨rfl,bel⟩
  ·by_cases hc19:smV (ag L0)=smV L0+2
   ·refine oT hF 0 (aD (c:=false) (aK (by omega))) rfl rfl fun a hF=>oM hF 0 rfl rfl fun a hF=>nu hF 0 rfl rfl rfl fun a hF=>nu hF 1 rfl rfl rfl fun a hF=>oV hF (aX hF.q aq) rfl fun a hF=>oM hF 0 rfl rfl fun a hF=>og hF (aC (hF.at 17 rfl)) 0 rfl rfl rfl fun a hF=>og hF (ao hF.o aq ah (aO (aD (c:=false) (aK (by omega))) (by simp))) 1 rfl rfl rfl fun a hF=>og hF (aC hF.o) 2 rfl rfl rfl fun a hF=>nu hF 0 rfl rfl rfl fun a hF=>nu hF 1 rfl rfl rfl fun a hF=>nu hF 2 rfl rfl rfl fun a hF=>og hF (aX (hF.at 3 rfl) aq) 6 rfl rfl rfl fun a hF=>og hF (aC hF.o) 7 rfl rfl rfl fun a hF=>?_
    refine nu hF 0 rfl rfl rfl fun a hF=>nu hF 1 rfl rfl rfl fun a hF=>nu hF 2 rfl rfl rfl fun a hF=>og hF (aX (hF.at 3 rfl) aq) 11 rfl rfl rfl fun a hF=>oV hF (aX (hF.at 12 rfl) hF.o) rfl fun a hF=>oM hF 0 rfl rfl fun a hF=>og hF (aC (hF.at 31 rfl)) 0 rfl rfl rfl fun a hF=>og hF (ao hF.o aq ah (aO (aD (c:=true) (aA (by omega))) (by simp))) 1 rfl rfl rfl fun a hF=>og hF (aC hF.o) 2 rfl rfl rfl fun a hF=>og hF (aw (hF.at 42 rfl) (aZ bw (st.bk 0 rfl) rfl)) 0 rfl rfl rfl fun a hF=>?_
    refine S.callxg st hF (aJ rfl rfl hF.p rfl) (rgc k40 (aL hF.o)) (ot L0 (ag L0) (smV L0%12) (smV (ag L0)%12) _ (by omega) (by omega)) rfl rfl rfl fun w20 a st hF=>?_
    refine og hF (ao hF.o aq ah (aO (cI (c:=true) (aA (by omega))) (by simp))) 2 rfl rfl rfl fun a hF=>og hF (aB (hF.at 3 rfl) hF.o) 6 rfl rfl rfl fun a hF=>oV hF (aX (hF.at 7 rfl) hF.o) rfl fun a hF=>oE hF 0 rfl rfl fun a hF=>nr ?_
    have bel:=st.bel
    refine rt Tryz.results10 hF 0 rfl ?_
    exact⟨rfl,bel⟩
   ·refine oT hF 0 (aD (c:=false) (aK (by omega))) rfl rfl fun a hF=>oM hF 0 rfl rfl fun a hF=>nu hF 0 rfl rfl rfl fun a hF=>nu hF 1 rfl rfl rfl fun a hF=>oV hF (aX hF.q aq) rfl fun a hF=>oM hF 0 rfl rfl fun a hF=>og hF (aC (hF.at 17 rfl)) 0 rfl rfl rfl fun a hF=>og hF (ao hF.o aq ah (aO (aD (c:=true) (aA (by omega))) (by simp))) 1 rfl rfl rfl fun a hF=>og hF (aC hF.o) 2 rfl rfl rfl fun a hF=>og hF (aw (hF.at 28 rfl) (aZ bw (st.bk 0 rfl) rfl)) 0 rfl rfl rfl fun a hF=>?_
    refine S.callxg st hF (aJ rfl rfl hF.p rfl) (rgc k27 (aL hF.o)) (fF L0 (ag L0) (smV L0%12) (smV (ag L0)%12) _) rfl rfl rfl fun w21 a st hF=>?_
    refine og hF (dc (Eq.trans hF.o (congrArg Value.bool (decide_eq_false (by omega)))) (b7 _ true rfl)) 2 rfl rfl rfl fun a hF=>og hF (aB (hF.at 3 rfl) hF.o) 6 rfl rfl rfl fun a hF=>og hF (aC hF.o) 7 rfl rfl rfl fun a hF=>og hF (aw (hF.at 33 rfl) (aZ bw (st.bk 0 rfl) rfl)) 0 rfl rfl rfl fun a hF=>?_
    refine S.callxg st hF (aJ rfl rfl hF.p rfl) (rgc k40 (aL hF.o)) (ot L0 (ag L0) (smV L0%12) (smV (ag L0)%12) _ (by omega) (by omega)) rfl rfl rfl fun w22 a st hF=>?_
    refine og hF (ao hF.o aq ah (aO (aD (c:=true) (aA (by omega))) (by simp))) 2 rfl rfl rfl fun a hF=>og hF (aB (hF.at 3 rfl) hF.o) 11 rfl rfl rfl fun a hF=>oV hF (aX (hF.at 12 rfl) hF.o) rfl fun a hF=>oM hF 0 rfl rfl fun a hF=>nu hF 0 rfl rfl rfl fun a hF=>nu hF 1 rfl rfl rfl fun a hF=>nu hF 2 rfl rfl rfl fun a hF=>?_
    refine E.unwanted hF (b8 rfl rfl hF.o) rfl rfl rfl fun a hF=>?_
    refine E.unwanted hF (b8 rfl rfl hF.p) rfl rfl rfl fun a hF=>?_
    refine E.unwanted hF (b8 rfl rfl hF.q) rfl rfl rfl fun a hF=>?_
    refine nu hF 6 rfl rfl rfl fun a hF=>oV hF (aB (hF.at 7 rfl) aq) rfl fun a hF=>oE hF 0 rfl rfl fun a hF=>nr ?_
    have bel:=st.bel
    refine rt Tryz.results10 hF 0 rfl ?_
    exact⟨rfl,bel⟩
 ·refine oT hF 0 (bp (c:=true) (aA (by omega))) rfl rfl fun a hF=>E.nil<|wp_cond_true hF.o<|wq ?_
  refine oM hF 10 rfl rfl fun a hF=>oT hF 0 (aD (c:=true) (aA (by omega))) rfl rfl fun a hF=>oE hF 0 rfl rfl fun a hF=>nr ?_
  have bel:=st.bel
  refine rt Tryz.results10 hF 0 rfl ?_
  exact⟨rfl,bel⟩
end Go.Proofs.YtddiipaomejcfaaGreatDoor
