import Derived.Test.YtgdpkknapcgcbaaGreatDoorKB40
namespace Go.Proofs.YtgdpkknapcgcbaaGreatDoor
open Go.RowKit
set_option maxRecDepth 100000
set_option linter.unusedVariables false
set_option maxHeartbeats 8000000
def Fv:List Pt:=[(1,4,0,0),(1,5,0,0),(1,6,0,0),(2,0,0,0)]
def oR (z y:Int):List Value:=[iv z,iv y,.bool false,.slice none 0 0,.slice none 0 0,.bool false,.slice none 0 0,.slice none 0 0]
def sB:List Value:=oR 1 4++oR 1 5++oR 1 6++oR 2 0
theorem lN (w:World) (z y:Int):PtV w (oR z y) (z,y,0,0):=⟨_,_,_,_,_,_,_,_,_,_,_,_,_,_,rfl,⟨Rq.zero _,fi (by decide)⟩,⟨Rq.zero _,fi (by decide)⟩⟩
theorem rG (w:World):PEl w sB Fv:=by
 intro i p e
 match i,e with
 |0,e=>injection e with e;subst e;exact lN w 1 4
 |1,e=>injection e with e;subst e;exact lN w 1 5
 |2,e=>injection e with e;subst e;exact lN w 1 6
 |3,e=>injection e with e;subst e;exact lN w 2 0
 |n+4,e=>cases e
theorem Dz (w:World):∃g w',(Instr.buildSlice 34 4 #[(0,.agg #[iv 1,iv 4,.bool false,.slice none 0 0,.slice none 0 0,.bool false,.slice none 0 0,.slice none 0 0]),(1,.agg #[iv 1,iv 5,.bool false,.slice none 0 0,.slice none 0 0,.bool false,.slice none 0 0,.slice none 0 0]),(2,.agg #[iv 1,iv 6,.bool false,.slice none 0 0,.slice none 0 0,.bool false,.slice none 0 0,.slice none 0 0]),(3,.agg #[iv 2,iv 0,.bool false,.slice none 0 0,.slice none 0 0,.bool false,.slice none 0 0,.slice none 0 0])]).run Tryz.prog w= .ok (.slice (some ⟨g,0,none⟩) 4 4) w'/\Below w.heap.size w w'/\w.heap.size<=g/\Blk w' g sB:=by
 have hb:=gb (w:=w) (cs:=sB) 57
 refine⟨w.heap.size,w.alloc (.cells sB.toArray 57),?_,hb.2,Nat.le_refl _,hb.1⟩
 have hs:=aL (P:=Tryz.prog) (T:=57) (n:=8) jF w
 simp[Instr.buildSlice,go_sem,hs,Instr.fill,Value.cells,newRow,sB,oR]
theorem dI (w:World) (hT:a6 w):
 CV 15 #[] w (.bool true):=by
 refine gs0 (nt:=36) Tryz.func15 rfl rfl fun a st hF=>wq ?_
 refine oC hF rfl fun a hF=>nq<|oV hF (a7 (by simp) (CA _)) rfl fun a hF=>cX st hF (rgc k18 (aA ah hF.o)) (pJ 0 0 0 0 0 _ (by decide+kernel)) rfl fun w1 a st hF=>oM hF 0 rfl rfl fun a hF=>oV hF (aC (v:= .agg #[iv 0,iv 0,.bool false,.slice none 0 0,.slice none 0 0,.bool false,.slice none 0 0,.slice none 0 0,.bool false,.slice none 0 0,.slice none 0 0,.slice none 0 0]) hF.o rfl) rfl fun a hF=>oV hF (aC (v:= iv (plE 0 0 0 0)) hF.p rfl) rfl fun a hF=>S.new st hF 1 rfl bz rfl rfl rfl rfl rfl fun g1 w2 a st hF=>?_
 refine oA hF 1 rfl rfl fun a hF=>nq<|oV hF (a7 (jc ah ah) (lH _ _ _)) rfl fun a hF=>oV hF (a7 (jc ah ah) (lH _ _ _)) rfl fun a hF=>oV hF (a7 (jc ah ah) (lH _ _ _)) rfl fun a hF=>oV hF (a7 (ji ah) (yj _ _)) rfl fun a hF=>?_
 obtain⟨gq,wq,hr,bb,hge,hbk⟩:=Dz _
 refine oV hF (da (j9 (hF.at 3 rfl) hF.q hF.p hF.o) hr) rfl fun a hF=>?_
 replace st:=(st.to bb).push hbk (Nat.le_trans st.bel.size hge) (st.ne hge)
 clear hr bb hbk hge
 refine oA hF 0 rfl rfl fun a hF=>nq<|oM hF 0 rfl rfl fun a hF=>oV hF (a7 (ji hF.o) (zo _ _ _ _)) rfl fun a hF=>S.new st hF 0 rfl bz rfl rfl rfl rfl rfl fun g4 w3 a st hF=>nq<|oM hF 9 rfl rfl fun a hF=>oT hF 0 (aJ (c:=true) (aD (by decide+kernel))) rfl rfl fun a hF=>oM hF 0 rfl rfl fun a hF=>og hF (aq (hF.at 3 rfl) (bi bz (st.bk 0 rfl) rfl)) 0 rfl rfl rfl fun a hF=>?_
 refine S.callxg st hF (az rfl rfl hF.p rfl) (rgc k33 (aB hF.o)) (kD _ _ _ _ _ _ _ _ _ _ _ _ _ _ _ _ _ _ _ _ _ _ _ _ _ _ _ _ 6 _ (st.bk 1 rfl) (rG _) rfl (by omega) rfl (by omega)) rfl rfl rfl fun w4 a st hF=>?_
 refine og hF (ar hF.o ah ab (aM (aJ (c:=true) (aD rfl)) (by simp))) 2 rfl rfl rfl fun a hF=>oV hF (aO (hF.at 3 rfl) hF.o) rfl fun a hF=>oM hF 0 rfl rfl fun a hF=>og hF (aq (hF.at 8 rfl) (bi bz (st.bk 0 rfl) rfl)) 0 rfl rfl rfl fun a hF=>?_
 refine E.callg hF (rgc k25 (aA hF.o ah)) (d8 _ _ _ _ _ _ _ _ _ _ _ _ _ _ _ _ _ _ _ _ _ _ _ _ _ _ _ _ 2 1 ([(2,0,0,0)]:List Pt) _ (st.bk 1 rfl) (rG _) rfl (by omega) rfl rfl) (az rfl rfl hF.p rfl) rfl rfl rfl ?_
 rintro e w5 ⟨adl6,capl6,rfl,hpl,bb⟩
 refine⟨_,rfl,?_⟩
 intro a hF
 replace st:=st.to bb
 clear bb hpl
 refine og hF (aR (aB hF.o) cf) 2 rfl rfl rfl fun a hF=>og hF (ar hF.o ah ab (aM (aJ (c:=true) (aD (by decide))) (by simp))) 3 rfl rfl rfl fun a hF=>oV hF (aO (hF.at 4 rfl) hF.o) rfl fun a hF=>oM hF 0 rfl rfl fun a hF=>og hF (aq (hF.at 14 rfl) (bi bz (st.bk 0 rfl) rfl)) 0 rfl rfl rfl fun a hF=>?_
 refine E.callg hF (rgc k25 (aA hF.o ah)) (d8 _ _ _ _ _ _ _ _ _ _ _ _ _ _ _ _ _ _ _ _ _ _ _ _ _ _ _ _ 0 0 ([]:List Pt) _ (st.bk 1 rfl) (rG _) rfl (by omega) rfl rfl) (az rfl rfl hF.p rfl) rfl rfl rfl ?_
 rintro e w7 ⟨adl8,capl8,rfl,hpl,bb⟩
 refine⟨_,rfl,?_⟩
 intro a hF
 replace st:=st.to bb
 clear bb hpl
 refine og hF (aR (aB hF.o) cf) 2 rfl rfl rfl fun a hF=>og hF (ar hF.o ah ab (aM (aJ (c:=true) (aD (by decide))) (by simp))) 3 rfl rfl rfl fun a hF=>oV hF (aO (hF.at 4 rfl) hF.o) rfl fun a hF=>oE hF 0 rfl rfl fun a hF=>nr ?_
 have bel:=st.bel
 refine rt Tryz.results15 hF 0 rfl ?_
 exact⟨rfl,bel⟩
theorem almanacTithis_walk (n wa wb wc wd:Int) (w:World) (hT:a6 w):
 CV 5 #[iv n,.agg #[iv wa,iv wb,iv wc,iv wd]] w (.bool true):=by
 obtain⟨pa,hpa⟩:∃z:Int,gA 60 120 wa wb=z:=⟨_,rfl⟩
 obtain⟨pb,hpb⟩:∃z:Int,gB wb=z:=⟨_,rfl⟩
 obtain⟨pc,hpc⟩:∃z:Int,gA 180 360 wc wd=z:=⟨_,rfl⟩
 obtain⟨pd,hpd⟩:∃z:Int,gB wd=z:=⟨_,rfl⟩
 have hok:co pa pb pc pd:=by rw[<-hpa,<-hpb,<-hpc,<-hpd];exact lY wa wb wc wd
 have hp1:=hok.b0
 have hp2:=hok.b1
 have hp3:=hok.a0
 have hp4:=hok.a1
 have hp5:=hok.d0
 have hp6:=hok.d1
 have hp7:=hok.c0
 have hp8:=hok.c1
 obtain⟨ny,hny⟩:∃z:Int,inD n=z:=⟨_,rfl⟩
 have hin0:=qJ n
 rw[hny] at hin0
 obtain⟨tq,htq⟩:∃z:Rat,aU (cr ny pa pb pc pd)=z:=⟨_,rfl⟩
 obtain⟨uq,huq⟩:∃z:Rat,aU (cr (ny+1) pa pb pc pd)=z:=⟨_,rfl⟩
 have hgt:∀c,Gr c tq:=fun c=>by rw[<-htq];exact i6 _
 have hgu:∀c,Gr c uq:=fun c=>by rw[<-huq];exact i6 _
 have hnx:=l9 hok ny
 rw[htq,huq] at hnx
 have hbt:=qm hok (n:=ny) (by omega) (by omega)
 rw[htq] at hbt
 obtain⟨NA,hNA⟩:∃z:Nat,(prA tq uq).length =z:=⟨_,rfl⟩
 have hNp:=oG tq uq
 rw[hNA] at hNp
 have hNb:=oJ hnx.1 hnx.2
 rw[hNA] at hNb
 obtain⟨X0,hX0⟩:∃z:Int,amX ny pa pb pc pd=z:=⟨_,rfl⟩
 obtain⟨L0,hL0⟩:∃z:Int,amL ny pa pb pc pd=z:=⟨_,rfl⟩
 obtain⟨X1,hX1⟩:∃z:Int,amX (ny+1) pa pb pc pd=z:=⟨_,rfl⟩
 obtain⟨L1,hL1⟩:∃z:Int,amL (ny+1) pa pb pc pd=z:=⟨_,rfl⟩
 have hst:=B2 hok ny
 rw[hX0,hX1] at hst
 have hx0:kS 1 tq=X0:=by rw[Au,<-htq,<-hX0];rfl
 have hx1:kS 1 uq=X1:=by rw[Au,<-huq,<-hX1];rfl
 obtain⟨P,hP⟩:∃z:Nat,paN 1 tq uq=z:=⟨_,rfl⟩
 have hPz:((P:Nat):Int)=X1-X0:=by rw[<-hP];unfold paN;rw[hx0,hx1];omega
 have hk1:kI 1 tq=X0%30:=by rw[dc (by decide) (by decide),hx0];rfl
 refine gs2 (nt:=64) Tryz.func5 rfl rfl rfl fun a st hF=>wq<|bx st hF 1 rfl rfl fun g3 w1 a st hF=>?_
 refine oC hF rfl fun a hF=>ns<|wq<|cX st hF (rgc k15 ic) (dI _ (hT.below st.bel)) rfl fun w2 a st hF=>oV hF (d9 hF.o (cZ _ false rfl)) rfl fun a hF=>E.nil<|wp_cond_false hF.o<|wp_skip<|E.norm<|wp_seq ?_
 refine E.rga 6 aF hF [15,16,17,18,6,5] [_,_,_,_,kb w2 [iv 0,iv 0,iv 0,iv 0],.ex (iv ny)] [4] ⟨fun _ _ ⟨g,e,_,o⟩=>⟨g,e,o.lt⟩,trivial⟩ (by decide+kernel) rfl rfl rfl ⟨rm 4 rfl,ck st k16 rfl fun _ s=>bv (qC _ hny),rb st qP 3 0 rfl,ck st k17 rfl fun _ s=>bv (mY _ hpa hpb hpc hpd),rai bj rfl,(by intro a' w' hF' hb hd;have e16:=tE hd 0 rfl;exact dv0 (bf e16) rfl rfl rfl),trivial⟩ ?_
 intro a w3 hF bb hall hne
 have s0:=st
 replace st:=st.to bb
 replace hF:=rE hall hF 3 rfl rfl
 obtain⟨_,e6,g6,rfl,ge6,o6⟩:=sS hall 4 6 rfl rfl
 replace st:=st.push o6 (Nat.le_trans s0.bel.size ge6) (s0.ne ge6)
 clear o6
 replace hF:=hF.add e6
 replace hF:=rE hall hF 5 rfl rfl
 clear hall bb hne s0
 refine S.stoI st hF 0 rfl hF.p hF.q bj rfl rfl rfl fun w4 a st hF=>nq<|oM hF 0 rfl rfl fun a hF=>oL hF st 2 0 bj rfl rfl rfl rfl fun a hF=>?_
 refine E.call hF (rgc k18 (aA hF.p hF.o)) (mT ny pa pb pc pd _ _ NA _ (hT.below st.bel) (by first|assumption|constructor<;>omega) (by omega) (by omega) htq huq hNA) rfl rfl rfl rfl ?_
 rintro e w5 ⟨_,rfl,hdy,bb⟩
 refine⟨_,rfl,?_⟩
 intro a hF
 obtain⟨b1t,a1t,n1t,c1t,d1t,m1t,e1t,b2t,a2t,n2t,c2t,d2t,m2t,e2t,b3t,a3t,n3t,c3t,d3t,m3t,e3t,adt,capt,rfl,hr1t,hr2t,hr3t,hpt⟩:=hdy
 obtain⟨gp,cp,rfl,_,hge,hbk,hel⟩:=hpt.row (by omega)
 replace st:=(((((st.to bb).push hbk (Nat.le_trans st.bel.size hge) (st.ne hge)).add hr1t (Rl.cl _)).add hr2t (Rl.cl _)).add hr3t (Rl.cl _)).add hel (PEl.cl _)
 clear hpt hbk hge hr1t hr2t hr3t hel bb
 refine oM hF 0 rfl rfl fun a hF=>oV hF (aC (v:= .agg #[iv ny,iv (ny%7),.bool b1t,.slice a1t n1t c1t,.slice d1t m1t e1t,.bool b2t,.slice a2t n2t c2t,.slice d2t m2t e2t,.bool b3t,.slice a3t n3t c3t,.slice d3t m3t e3t,.slice (some ⟨gp,0,none⟩) NA capt]) hF.o rfl) rfl fun a hF=>oV hF (aC (v:= iv 0) hF.p rfl) rfl fun a hF=>S.new st hF 1 rfl bz rfl rfl rfl rfl rfl fun g7 w6 a st hF=>?_
 refine oA hF 1 rfl rfl fun a hF=>nq<|oL hF st 1 0 bz rfl rfl rfl rfl fun a hF=>?_
 refine E.call hF (rgc k25 (aA hF.o ah)) (d8 _ _ _ _ _ _ _ _ _ _ _ _ _ _ _ _ _ _ _ _ _ _ _ _ _ _ _ _ 1 (P+1) (prC 1 tq uq) _ (st.bk 1 rfl) (st.f 0 rfl) hNA (by omega) (nR (by decide) (by decide) _ _) (by rw[fF,hP])) rfl rfl rfl rfl ?_
 rintro e w7 ⟨adl8,capl8,rfl,hpl,bb⟩
 refine⟨_,rfl,?_⟩
 intro a hF
 obtain⟨gl8,cl8,rfl,_,hge,hbk,hll8⟩:=hpl.row (by rw[fF,hP];omega)
 replace st:=((st.to bb).push hbk (Nat.le_trans st.bel.size hge) (st.ne hge)).add hll8 (PEl.cl _)
 clear hpl hbk hge hll8 bb
 refine oA hF 0 rfl rfl fun a hF=>?_
 obtain⟨b1x,a1x,n1x,c1x,d1x,m1x,e1x,b2x,a2x,n2x,c2x,d2x,m2x,e2x,hcx,hlx,hrx⟩:=((st.f 0 rfl)).at4 (i:=0) (c:=1) (f:=tq) (wG (by omega))
 replace st:=(st.add hlx (Rl.cl _)).add hrx (Rl.cl _)
 clear hlx hrx
 refine ns ?_
 refine E.rg 9 aF hF [27,28,29,30,31,32,33,10,11] [_,_,_,_,.ex (iv (ny+1)),_,_,.ex (iv (X0%30+1)),.ex (iv (X1%30+1))] (by decide+kernel) rfl rfl rfl ⟨rm 11 rfl,rb st bj 12 3 rfl,ck st k32 rfl fun _ s=>bv (mu ny pa pb pc pd X0 _ (hT.below s.bel) (by first|assumption|constructor<;>omega) (by omega) (by omega) hX0),rm 11 rfl,(by intro a' w' hF' hb hd;have e30:=tE hd 0 rfl;exact dv0 (ar e30 ah ab (bl (by omega) (by omega))) rfl rfl rfl),rb st bj 12 3 rfl,ck st k32 rfl fun _ s=>bv (mu (ny+1) pa pb pc pd X1 _ (hT.below s.bel) (by first|assumption|constructor<;>omega) (by omega) (by omega) hX1),(by intro a' w' hF' hb hd;have e29:=tE hd 0 rfl;exact dv0 (bf e29) rfl rfl rfl),(by intro a' w' hF' hb hd;have e33:=tE hd 0 rfl;exact dv0 (bf e33) rfl rfl rfl),trivial⟩ ?_
 intro a w9 hF bb hall
 replace st:=st.to bb
 replace hF:=rE hall hF 7 rfl rfl
 replace hF:=rE hall hF 8 rfl rfl
 clear hall bb
 refine nq<|oM hF 0 rfl rfl fun a hF=>oM hF 2 rfl rfl fun a hF=>oV hF (ar hF.p hF.o ab (de (by omega) (by omega))) rfl fun a hF=>oV hF (ar hF.o ah ab (bl (by omega) (by omega))) rfl fun a hF=>oV hF (ar hF.o ah ab (ir (a:=((X1%30+1)-(X0%30+1))+30) (b:=30) (by omega) (by omega))) rfl fun a hF=>oA hF 0 rfl rfl fun a hF=>?_
 replace hF:Fr 64 a [(12,iv ((P:Nat):Int)),(38,iv ((((X1%30+1)-(X0%30+1))+30)%30)),(37,iv (((X1%30+1)-(X0%30+1))+30)),(36,iv ((X1%30+1)-(X0%30+1))),(35,iv (X0%30+1)),(34,iv (X1%30+1)),(11,iv (X1%30+1)),(10,iv (X0%30+1)),(9,.slice (some ⟨gl8,0,none⟩) (P+1) capl8),(26,.slice (some ⟨gl8,0,none⟩) (P+1) capl8),(25,.agg #[iv ny,iv (ny%7),.bool b1t,.slice a1t n1t c1t,.slice d1t m1t e1t,.bool b2t,.slice a2t n2t c2t,.slice d2t m2t e2t,.bool b3t,.slice a3t n3t c3t,.slice d3t m3t e3t,.slice (some ⟨gp,0,none⟩) NA capt]),(8,iv 0),(7,.pointer (some ⟨g7,0,none⟩)),(24,iv 0),(23,.agg #[iv ny,iv (ny%7),.bool b1t,.slice a1t n1t c1t,.slice d1t m1t e1t,.bool b2t,.slice a2t n2t c2t,.slice d2t m2t e2t,.bool b3t,.slice a3t n3t c3t,.slice d3t m3t e3t,.slice (some ⟨gp,0,none⟩) NA capt]),(19,.tuple #[.agg #[iv ny,iv (ny%7),.bool b1t,.slice a1t n1t c1t,.slice d1t m1t e1t,.bool b2t,.slice a2t n2t c2t,.slice d2t m2t e2t,.bool b3t,.slice a3t n3t c3t,.slice d3t m3t e3t,.slice (some ⟨gp,0,none⟩) NA capt],iv 0]),(22,.tuple #[.agg #[iv ny,iv (ny%7),.bool b1t,.slice a1t n1t c1t,.slice d1t m1t e1t,.bool b2t,.slice a2t n2t c2t,.slice d2t m2t e2t,.bool b3t,.slice a3t n3t c3t,.slice d3t m3t e3t,.slice (some ⟨gp,0,none⟩) NA capt],iv 0]),(21,.agg #[iv pa,iv pb,iv pc,iv pd]),(20,iv ny),(5,iv ny),(6,.pointer (some ⟨g6,0,none⟩)),(18,.agg #[iv pa,iv pb,iv pc,iv pd]),(14,.bool false),(13,.bool true),(4,.bool false),(3,.pointer (some ⟨g3,0,none⟩)),(0,iv n),(1,.agg #[iv wa,iv wb,iv wc,iv wd])]:=by rw[show((P:Nat):Int)=(((X1%30+1)-(X0%30+1))+30)%30 by omega];exact hF
 refine ns<|wq<|oM hF 8 rfl rfl fun a hF=>oV hF (aR (aB hF.o) cf) rfl fun a hF=>oM hF 2 rfl rfl fun a hF=>oV hF (ar hF.o ah ab (bl (by omega) (by omega))) rfl fun a hF=>oU hF 2 0 (cQ (c:=false) (aK (by omega))) rfl rfl rfl fun a hF=>oM hF 0 rfl rfl fun a hF=>og hF (aI (hF.at 14 rfl)) 0 rfl rfl rfl fun a hF=>og hF (dY hF.o ah (fV (i:=0) (by omega) (by omega))) 1 rfl rfl rfl fun a hF=>og hF (ao hF.o (gO (p:=(8*0+1)) rfl)) 2 rfl rfl rfl fun a hF=>og hF (aq hF.o (cS (v:= iv (kI 1 tq)) (st.bk 0 rfl) (lO (k:=1) hcx (by decide) rfl))) 3 rfl rfl rfl fun a hF=>og hF (ar hF.o ah ab (bl (by omega) (by omega))) 4 rfl rfl rfl fun a hF=>og hF (aI (hF.at 18 rfl)) 5 rfl rfl rfl fun a hF=>og hF (ar hF.p hF.o ab (aM (cQ (c:=false) (aK (by omega))) (by simp))) 6 rfl rfl rfl fun a hF=>oV hF (aZ (hF.at 7 rfl) hF.o) rfl fun a hF=>?_
 refine E.nil<|wp_cond_false hF.o<|wp_skip<|E.norm<|wp_seq<|wq<|oM hF 14 rfl rfl fun a hF=>?_
 by_cases hc10:P=2
 ·refine oT hF 0 (aJ (c:=true) (aD (by omega))) rfl rfl fun a hF=>E.nil<|wp_cond_true hF.o<|wq<|oL hF st 28 1 bz rfl rfl rfl rfl fun a hF=>cX st hF (rgc k33 (aB hF.o)) (kD _ _ _ _ _ _ _ _ _ _ _ _ _ _ _ _ _ _ _ _ _ _ _ _ _ _ _ _ ((kI 1 tq+1)%30+1) _ (st.bk 2 rfl) (st.f 3 rfl) hNA (by omega) (za (by omega)) (by omega)) rfl fun w11 a st hF=>?_
  refine oM hF 25 rfl rfl fun a hF=>oV hF (ar hF.o ah ab (ir (a:=X0%30+1) (b:=30) (by omega) (by omega))) rfl fun a hF=>oV hF (ar hF.o ah ab (bl (by omega) (by omega))) rfl fun a hF=>oU hF 3 0 (aJ (c:=true) (aD (by omega))) rfl rfl rfl fun a hF=>oE hF 0 rfl rfl fun a hF=>nr ?_
  have bel:=st.bel
  refine rt Tryz.results5 hF 0 rfl ?_
  exact⟨rfl,bel⟩
 ·refine oT hF 0 (aJ (c:=false) (aK (by omega))) rfl rfl fun a hF=>E.nil<|wp_cond_false hF.o<|wp_skip<|E.norm<|wq<|oL hF st 28 1 bz rfl rfl rfl rfl fun a hF=>cX st hF (rgc k33 (aB hF.o)) (kD _ _ _ _ _ _ _ _ _ _ _ _ _ _ _ _ _ _ _ _ _ _ _ _ _ _ _ _ 0 _ (st.bk 2 rfl) (st.f 3 rfl) hNA (by omega) (B8 (by omega)) (by omega)) rfl fun w12 a st hF=>?_
  refine oT hF 0 (aJ (c:=true) (aD (by decide))) rfl rfl fun a hF=>oE hF 0 rfl rfl fun a hF=>nr ?_
  have bel:=st.bel
  refine rt Tryz.results5 hF 0 rfl ?_
  exact⟨rfl,bel⟩
end Go.Proofs.YtgdpkknapcgcbaaGreatDoor
