import Derived.Test.YtddiipaomejcfaaGreatDoorKA41
namespace Go.Proofs.YtddiipaomejcfaaGreatDoor
open Go.RowKit
set_option maxRecDepth 100000
set_option linter.unusedVariables false
set_option maxHeartbeats 8000000
theorem purnimaTrue_walk (n:Int) (y m:Int) (l:Bool) (x:Int) (u:Bool) (how wa wb wc wd:Int) (w:World) (hT:a8 w):
 CV 11 #[iv n,.agg #[iv y,iv m,.bool l,iv x,.bool u],iv how,.agg #[iv wa,iv wb,iv wc,iv wd]] w (.bool true):=by
 obtain⟨pa,hpa⟩:∃z:Int,gA 60 120 wa wb=z:=⟨_,rfl⟩
 obtain⟨pb,hpb⟩:∃z:Int,gB wb=z:=⟨_,rfl⟩
 obtain⟨pc,hpc⟩:∃z:Int,gA 180 360 wc wd=z:=⟨_,rfl⟩
 obtain⟨pd,hpd⟩:∃z:Int,gB wd=z:=⟨_,rfl⟩
 have hok:bz pa pb pc pd:=by rw[<-hpa,<-hpb,<-hpc,<-hpd];exact gL wa wb wc wd
 have hp1:=hok.b0
 have hp2:=hok.b1
 have hp3:=hok.a0
 have hp4:=hok.a1
 have hp5:=hok.d0
 have hp6:=hok.d1
 have hp7:=hok.c0
 have hp8:=hok.c1
 obtain⟨ny,hny⟩:∃z:Int,inD n=z:=⟨_,rfl⟩
 have hin0:=k4 n
 rw[hny] at hin0
 obtain⟨X0,hX0⟩:∃z:Int,amX ny pa pb pc pd=z:=⟨_,rfl⟩
 obtain⟨L0,hL0⟩:∃z:Int,amL ny pa pb pc pd=z:=⟨_,rfl⟩
 obtain⟨X9,hX9⟩:∃z:Int,amX (ny-1) pa pb pc pd=z:=⟨_,rfl⟩
 obtain⟨L9,hL9⟩:∃z:Int,amL (ny-1) pa pb pc pd=z:=⟨_,rfl⟩
 have hys:=qB hok (by omega) (by omega) hL0
 have hpub:=wg L0 X0
 have st:=St.start w
 refine E.enter (nt:=80) (L:=[(0,iv n),(1,.agg #[iv y,iv m,.bool l,iv x,.bool u]),(2,iv how),(3,.agg #[iv wa,iv wb,iv wc,iv wd])]) Tryz.func11 rfl rfl rfl (a6 (i:=0) rfl (a6 (i:=1) rfl (a6 (i:=2) rfl (a6 (i:=3) rfl dB)))) ?_
 intro a hF
 refine wq<|bx st hF 1 rfl rfl fun g5 w1 a st hF=>bx st hF 4 rfl rfl fun g7 w2 a st hF=>?_
 refine oC hF rfl fun a hF=>ns<|wq<|cX st hF (rgc k32 fk) (hJ _ (hT.below st.bel)) rfl fun w3 a st hF=>oV hF (dc hF.o (b7 _ false rfl)) rfl fun a hF=>E.nil<|wp_cond_false hF.o<|wp_skip<|E.norm<|wq<|oL hF st 3 0 j5 rfl rfl rfl rfl fun a hF=>?_
 refine cX st hF (rgc k15 (aL hF.o)) (gQ _ hpa hpb hpc hpd) rfl fun w4 a st hF=>S.new st hF 0 rfl aM rfl rfl rfl rfl rfl fun g9 w5 a st hF=>ns ?_
 refine E.rga 5 aP hF [19,20,21,22,10] [_,_,_,_,kb w5 [iv 0,iv 0,.bool false,iv 0,.bool false]] [4] ⟨fun _ _ ⟨g,e,_,o⟩=>⟨g,e,o.lt⟩,trivial⟩ (by decide+kernel) rfl rfl rfl ⟨rm 8 rfl,ck st k14 rfl fun _ s=>a9 (k6 _ hny),rb st aM 0 0 rfl,ck st k35 rfl fun _ s=>a9 (ie ny pa pb pc pd L0 X0 X9 _ (hT.below s.bel) (by first|assumption|constructor<;>omega) (by omega) (by omega) hL0 hX0 hX9),rai aG rfl,trivial⟩ ?_
 intro a w6 hF bb hall hne
 have s0:=st
 replace st:=st.to bb
 replace hF:=rE hall hF 3 rfl rfl
 obtain⟨_,e10,g10,rfl,ge10,o10⟩:=sS hall 4 10 rfl rfl
 replace st:=st.push o10 (Nat.le_trans s0.bel.size ge10) (s0.ne ge10)
 clear o10
 replace hF:=hF.add e10
 clear hall bb hne s0
 refine S.stoI st hF 0 rfl hF.o hF.p aG rfl rfl rfl fun w7 a st hF=>ns<|wq<|oM hF 12 rfl rfl fun a hF=>oV hF (ao hF.o aq ah (fV (n:=2) (by decide) (d:=4) (by decide) (by decide))) rfl fun a hF=>E.nil<|wp_block<|wq ?_
 by_cases hc8:how%4=0
 ·refine oT hF 0 (aD (c:=true) (aA hc8)) rfl rfl fun a hF=>oA hF 0 rfl rfl fun a hF=>E.nil<|wp_cond_true hF.o<|E.seq<|oV hF (az (hF.at 4 rfl) (gM (p:=4) rfl)) rfl fun a hF=>oV hF (aw hF.o (fB (v:= .bool (decide (X9=X0))) (st.bk 0 rfl) rfl)) rfl fun a hF=>?_
  by_cases hc9:decide (X9=X0)=true
  ·refine oV hF (dc (Eq.trans hF.o (congrArg Value.bool hc9)) (b7 _ false rfl)) rfl fun a hF=>oV hF (az (hF.at 7 rfl) (gM (p:=4) rfl)) rfl fun a hF=>?_
   refine S.stooI (o:=4) (vs:=[.bool false]) (ws:=[iv ((smV L0+1)/12-1955883044),iv (puM L0 X0),.bool (decide (smV (ag L0)=smV L0)),iv (X0%30+1),.bool false]) st hF 0 rfl hF.o hF.p rfl cV rfl rfl rfl rfl fun w10 a st hF=>?_
   refine E.nil0<|E.blk<|E.norm<|wq<|oL hF st 8 0 aG rfl rfl rfl rfl fun a hF=>oL hF st 11 1 aM rfl rfl rfl rfl fun a hF=>cX st hF (rgc k36 (aH hF.p hF.o)) (fu ((smV L0+1)/12-1955883044) (puM L0 X0) (decide (smV (ag L0)=smV L0)) (X0%30+1) false pa pb pc pd _ (hT.below st.bel) (by first|assumption|constructor<;>omega) (by omega) (by omega) (by omega) (by omega) (by omega) (by omega)) rfl fun w11 a st hF=>oM hF 0 rfl rfl fun a hF=>oV hF (av (v:= iv (puN pa pb pc pd ((smV L0+1)/12-1955883044) (puM L0 X0) (decide (smV (ag L0)=smV L0)) (X0%30+1) false)) hF.o rfl) rfl fun a hF=>oV hF (av (v:= iv (puE pa pb pc pd ((smV L0+1)/12-1955883044) (puM L0 X0) (decide (smV (ag L0)=smV L0)) (X0%30+1) false)) hF.p rfl) rfl fun a hF=>oA hF 1 rfl rfl fun a hF=>oA hF 1 rfl rfl fun a hF=>?_
   obtain⟨nn,hN⟩:∃z:Int,puN pa pb pc pd ((smV L0+1)/12-1955883044) (puM L0 X0) (decide (smV (ag L0)=smV L0)) (X0%30+1) false=z:=⟨_,rfl⟩
   obtain⟨ee,hE⟩:∃z:Int,puE pa pb pc pd ((smV L0+1)/12-1955883044) (puM L0 X0) (decide (smV (ag L0)=smV L0)) (X0%30+1) false=z:=⟨_,rfl⟩
   have hsp:=gi pa pb pc pd ((smV L0+1)/12-1955883044) (puM L0 X0) (decide (smV (ag L0)=smV L0)) (X0%30+1) false
   rw[hN,hE] at hsp
   have hsq:ee=0\/(ee=3/\nn=0):=hsp.elim (fun h=> .inl h.1) (fun h=> .inr ⟨h.1,h.2.1⟩)
   have hfp:ee=0->puP pa pb pc pd ((smV L0+1)/12-1955883044) (puM L0 X0) (decide (smV (ag L0)=smV L0)) (X0%30+1) false nn:=fun z=>hsp.elim (fun h=>h.2) (fun h=>absurd (z.symm.trans h.1) (by decide))
   clear hsp
   replace hF:Fr 80 a [(12,iv ee),(11,iv nn),(58,iv (puE pa pb pc pd ((smV L0+1)/12-1955883044) (puM L0 X0) (decide (smV (ag L0)=smV L0)) (X0%30+1) false)),(57,iv (puN pa pb pc pd ((smV L0+1)/12-1955883044) (puM L0 X0) (decide (smV (ag L0)=smV L0)) (X0%30+1) false)),(53,.tuple #[iv (puN pa pb pc pd ((smV L0+1)/12-1955883044) (puM L0 X0) (decide (smV (ag L0)=smV L0)) (X0%30+1) false),iv (puE pa pb pc pd ((smV L0+1)/12-1955883044) (puM L0 X0) (decide (smV (ag L0)=smV L0)) (X0%30+1) false)]),(56,.tuple #[iv (puN pa pb pc pd ((smV L0+1)/12-1955883044) (puM L0 X0) (decide (smV (ag L0)=smV L0)) (X0%30+1) false),iv (puE pa pb pc pd ((smV L0+1)/12-1955883044) (puM L0 X0) (decide (smV (ag L0)=smV L0)) (X0%30+1) false)]),(55,.agg #[iv pa,iv pb,iv pc,iv pd]),(54,.agg #[iv ((smV L0+1)/12-1955883044),iv (puM L0 X0),.bool (decide (smV (ag L0)=smV L0)),iv (X0%30+1),.bool false]),(30,.pointer (some ⟨g10,4,none⟩)),(29,.bool false),(28,.bool (decide (X9=X0))),(27,.pointer (some ⟨g10,4,none⟩)),(25,.bool true),(26,.bool true),(24,iv (how%4)),(23,iv how),(10,.pointer (some ⟨g10,0,none⟩)),(22,.agg #[iv ((smV L0+1)/12-1955883044),iv (puM L0 X0),.bool (decide (smV (ag L0)=smV L0)),iv (X0%30+1),.bool (decide (X9=X0))]),(9,.pointer (some ⟨g9,0,none⟩)),(18,.agg #[iv pa,iv pb,iv pc,iv pd]),(17,.agg #[iv wa,iv wb,iv wc,iv wd]),(16,.bool false),(15,.bool true),(8,.bool false),(7,.pointer (some ⟨g7,0,none⟩)),(5,.pointer (some ⟨g5,0,none⟩)),(0,iv n),(1,.agg #[iv y,iv m,.bool l,iv x,.bool u]),(2,iv how),(3,.agg #[iv wa,iv wb,iv wc,iv wd])]:=by rw[<-hN];rw[<-hE];exact hF
   refine ns<|wq<|oM hF 0 rfl rfl fun a hF=>?_
   by_cases hc12:ee=0
   ·refine oT hF 0 (bn (c:=false) (aK (fun e=>e hc12))) rfl rfl fun a hF=>?_
    have hp:=hfp hc12
    have hp0:=hp.1
    have hp1:=hp.2.1
    refine E.nil<|wp_cond_false hF.o<|wp_skip<|E.norm<|wq<|oM hF 3 rfl rfl fun a hF=>oL hF st 21 1 aM rfl rfl rfl rfl fun a hF=>cX st hF (rgc k33 (aH hF.p hF.o)) (gS nn pa pb pc pd (amL nn pa pb pc pd) (amX nn pa pb pc pd) (amX (nn-1) pa pb pc pd) _ (hT.below st.bel) (by first|assumption|constructor<;>omega) (by omega) (by omega) rfl rfl rfl) rfl fun w13 a st hF=>oM hF 0 rfl rfl fun a hF=>oV hF (av (v:= .agg #[iv ((smV (amL nn pa pb pc pd)+1)/12-1955883044),iv (puM (amL nn pa pb pc pd) (amX nn pa pb pc pd)),.bool (decide (smV (ag (amL nn pa pb pc pd))=smV (amL nn pa pb pc pd))),iv ((amX nn pa pb pc pd)%30+1),.bool (decide ((amX (nn-1) pa pb pc pd)=(amX nn pa pb pc pd)))]) hF.o rfl) rfl fun a hF=>oV hF (av (v:= iv 0) hF.p rfl) rfl fun a hF=>?_
    refine S.new st hF 1 rfl aG rfl rfl rfl rfl rfl fun g13 w14 a st hF=>?_
    refine oA hF 1 rfl rfl fun a hF=>nq<|oM hF 0 rfl rfl fun a hF=>oT hF 0 (aD (c:=true) (by decide)) rfl rfl fun a hF=>oM hF 0 rfl rfl fun a hF=>og hF (aw (hF.at 4 rfl) (aZ aG (st.bk 0 rfl) rfl)) 0 rfl rfl rfl fun a hF=>og hF (aw (hF.at 30 rfl) (aZ aG (st.bk 1 rfl) rfl)) 1 rfl rfl rfl fun a hF=>og hF (ao hF.p hF.o dq (dD (aA ⟨hp.2.2.1,hp.2.2.2.1,hp.2.2.2.2.1,hp.2.2.2.2.2.1,hp.2.2.2.2.2.2⟩))) 2 rfl rfl rfl fun a hF=>oV hF (aB (hF.at 3 rfl) hF.o) rfl fun a hF=>?_
    refine oE hF 0 rfl rfl fun a hF=>nr ?_
    have bel:=st.bel
    refine rt Tryz.results11 hF 0 rfl ?_
    exact⟨rfl,bel⟩
   ·refine oT hF 0 (bn (c:=true) (aA (hc12))) rfl rfl fun a hF=>E.nil<|wp_cond_true hF.o<|wq<|oM hF 2 rfl rfl fun a hF=>oT hF 0 (aD (c:=true) (aA (by omega))) rfl rfl fun a hF=>oM hF 0 rfl rfl fun a hF=>og hF (aC (hF.at 6 rfl)) 0 rfl rfl rfl fun a hF=>og hF (ao hF.o aq ah (aO (aD (c:=true) (aA (by omega))) (by simp))) 1 rfl rfl rfl fun a hF=>oV hF (aB hF.q hF.o) rfl fun a hF=>oE hF 0 rfl rfl fun a hF=>nr ?_
    have bel:=st.bel
    refine rt Tryz.results11 hF 0 rfl ?_
    exact⟨rfl,bel⟩
  ·refine oV hF (dc (Eq.trans hF.o (congrArg Value.bool (eq_false_of_ne_true hc9))) (b7 _ true rfl)) rfl fun a hF=>oV hF (az (hF.at 7 rfl) (gM (p:=4) rfl)) rfl fun a hF=>?_
   refine S.stooI (o:=4) (vs:=[.bool true]) (ws:=[iv ((smV L0+1)/12-1955883044),iv (puM L0 X0),.bool (decide (smV (ag L0)=smV L0)),iv (X0%30+1),.bool true]) st hF 0 rfl hF.o hF.p rfl cV rfl rfl rfl rfl fun w15 a st hF=>?_
   refine E.nil0<|E.blk<|E.norm<|wq<|oL hF st 8 0 aG rfl rfl rfl rfl fun a hF=>oL hF st 11 1 aM rfl rfl rfl rfl fun a hF=>cX st hF (rgc k36 (aH hF.p hF.o)) (fu ((smV L0+1)/12-1955883044) (puM L0 X0) (decide (smV (ag L0)=smV L0)) (X0%30+1) true pa pb pc pd _ (hT.below st.bel) (by first|assumption|constructor<;>omega) (by omega) (by omega) (by omega) (by omega) (by omega) (by omega)) rfl fun w16 a st hF=>oM hF 0 rfl rfl fun a hF=>oV hF (av (v:= iv (puN pa pb pc pd ((smV L0+1)/12-1955883044) (puM L0 X0) (decide (smV (ag L0)=smV L0)) (X0%30+1) true)) hF.o rfl) rfl fun a hF=>oV hF (av (v:= iv (puE pa pb pc pd ((smV L0+1)/12-1955883044) (puM L0 X0) (decide (smV (ag L0)=smV L0)) (X0%30+1) true)) hF.p rfl) rfl fun a hF=>oA hF 1 rfl rfl fun a hF=>oA hF 1 rfl rfl fun a hF=>?_
   obtain⟨nn,hN⟩:∃z:Int,puN pa pb pc pd ((smV L0+1)/12-1955883044) (puM L0 X0) (decide (smV (ag L0)=smV L0)) (X0%30+1) true=z:=⟨_,rfl⟩
   obtain⟨ee,hE⟩:∃z:Int,puE pa pb pc pd ((smV L0+1)/12-1955883044) (puM L0 X0) (decide (smV (ag L0)=smV L0)) (X0%30+1) true=z:=⟨_,rfl⟩
   have hsp:=gi pa pb pc pd ((smV L0+1)/12-1955883044) (puM L0 X0) (decide (smV (ag L0)=smV L0)) (X0%30+1) true
   rw[hN,hE] at hsp
   have hsq:ee=0\/(ee=3/\nn=0):=hsp.elim (fun h=> .inl h.1) (fun h=> .inr ⟨h.1,h.2.1⟩)
   have hfp:ee=0->puP pa pb pc pd ((smV L0+1)/12-1955883044) (puM L0 X0) (decide (smV (ag L0)=smV L0)) (X0%30+1) true nn:=fun z=>hsp.elim (fun h=>h.2) (fun h=>absurd (z.symm.trans h.1) (by decide))
   clear hsp
   replace hF:Fr 80 a [(12,iv ee),(11,iv nn),(58,iv (puE pa pb pc pd ((smV L0+1)/12-1955883044) (puM L0 X0) (decide (smV (ag L0)=smV L0)) (X0%30+1) true)),(57,iv (puN pa pb pc pd ((smV L0+1)/12-1955883044) (puM L0 X0) (decide (smV (ag L0)=smV L0)) (X0%30+1) true)),(53,.tuple #[iv (puN pa pb pc pd ((smV L0+1)/12-1955883044) (puM L0 X0) (decide (smV (ag L0)=smV L0)) (X0%30+1) true),iv (puE pa pb pc pd ((smV L0+1)/12-1955883044) (puM L0 X0) (decide (smV (ag L0)=smV L0)) (X0%30+1) true)]),(56,.tuple #[iv (puN pa pb pc pd ((smV L0+1)/12-1955883044) (puM L0 X0) (decide (smV (ag L0)=smV L0)) (X0%30+1) true),iv (puE pa pb pc pd ((smV L0+1)/12-1955883044) (puM L0 X0) (decide (smV (ag L0)=smV L0)) (X0%30+1) true)]),(55,.agg #[iv pa,iv pb,iv pc,iv pd]),(54,.agg #[iv ((smV L0+1)/12-1955883044),iv (puM L0 X0),.bool (decide (smV (ag L0)=smV L0)),iv (X0%30+1),.bool true]),(30,.pointer (some ⟨g10,4,none⟩)),(29,.bool true),(28,.bool (decide (X9=X0))),(27,.pointer (some ⟨g10,4,none⟩)),(25,.bool true),(26,.bool true),(24,iv (how%4)),(23,iv how),(10,.pointer (some ⟨g10,0,none⟩)),(22,.agg #[iv ((smV L0+1)/12-1955883044),iv (puM L0 X0),.bool (decide (smV (ag L0)=smV L0)),iv (X0%30+1),.bool (decide (X9=X0))]),(9,.pointer (some ⟨g9,0,none⟩)),(18,.agg #[iv pa,iv pb,iv pc,iv pd]),(17,.agg #[iv wa,iv wb,iv wc,iv wd]),(16,.bool false),(15,.bool true),(8,.bool false),(7,.pointer (some ⟨g7,0,none⟩)),(5,.pointer (some ⟨g5,0,none⟩)),(0,iv n),(1,.agg #[iv y,iv m,.bool l,iv x,.bool u]),(2,iv how),(3,.agg #[iv wa,iv wb,iv wc,iv wd])]:=by rw[<-hN];rw[<-hE];exact hF
   refine ns<|wq<|oM hF 0 rfl rfl fun a hF=>?_
   by_cases hc17:ee=0
   ·refine oT hF 0 (bn (c:=false) (aK (fun e=>e hc17))) rfl rfl fun a hF=>?_
    have hp:=hfp hc17
    have hp0:=hp.1
    have hp1:=hp.2.1
    refine E.nil<|wp_cond_false hF.o<|wp_skip<|E.norm<|wq<|oM hF 3 rfl rfl fun a hF=>oL hF st 21 1 aM rfl rfl rfl rfl fun a hF=>cX st hF (rgc k33 (aH hF.p hF.o)) (gS nn pa pb pc pd (amL nn pa pb pc pd) (amX nn pa pb pc pd) (amX (nn-1) pa pb pc pd) _ (hT.below st.bel) (by first|assumption|constructor<;>omega) (by omega) (by omega) rfl rfl rfl) rfl fun w18 a st hF=>oM hF 0 rfl rfl fun a hF=>oV hF (av (v:= .agg #[iv ((smV (amL nn pa pb pc pd)+1)/12-1955883044),iv (puM (amL nn pa pb pc pd) (amX nn pa pb pc pd)),.bool (decide (smV (ag (amL nn pa pb pc pd))=smV (amL nn pa pb pc pd))),iv ((amX nn pa pb pc pd)%30+1),.bool (decide ((amX (nn-1) pa pb pc pd)=(amX nn pa pb pc pd)))]) hF.o rfl) rfl fun a hF=>oV hF (av (v:= iv 0) hF.p rfl) rfl fun a hF=>?_
    refine S.new st hF 1 rfl aG rfl rfl rfl rfl rfl fun g13 w19 a st hF=>?_
    refine oA hF 1 rfl rfl fun a hF=>nq<|oM hF 0 rfl rfl fun a hF=>oT hF 0 (aD (c:=true) (by decide)) rfl rfl fun a hF=>oM hF 0 rfl rfl fun a hF=>og hF (aw (hF.at 4 rfl) (aZ aG (st.bk 0 rfl) rfl)) 0 rfl rfl rfl fun a hF=>og hF (aw (hF.at 30 rfl) (aZ aG (st.bk 1 rfl) rfl)) 1 rfl rfl rfl fun a hF=>og hF (ao hF.p hF.o dq (dD (aA ⟨hp.2.2.1,hp.2.2.2.1,hp.2.2.2.2.1,hp.2.2.2.2.2.1,hp.2.2.2.2.2.2⟩))) 2 rfl rfl rfl fun a hF=>oV hF (aB (hF.at 3 rfl) hF.o) rfl fun a hF=>?_
    refine oE hF 0 rfl rfl fun a hF=>nr ?_
    have bel:=st.bel
    refine rt Tryz.results11 hF 0 rfl ?_
    exact⟨rfl,bel⟩
   ·refine oT hF 0 (bn (c:=true) (aA (hc17))) rfl rfl fun a hF=>E.nil<|wp_cond_true hF.o<|wq<|oM hF 2 rfl rfl fun a hF=>oT hF 0 (aD (c:=true) (aA (by omega))) rfl rfl fun a hF=>oM hF 0 rfl rfl fun a hF=>og hF (aC (hF.at 6 rfl)) 0 rfl rfl rfl fun a hF=>og hF (ao hF.o aq ah (aO (aD (c:=true) (aA (by omega))) (by simp))) 1 rfl rfl rfl fun a hF=>oV hF (aB hF.q hF.o) rfl fun a hF=>oE hF 0 rfl rfl fun a hF=>nr ?_
    have bel:=st.bel
    refine rt Tryz.results11 hF 0 rfl ?_
    exact⟨rfl,bel⟩
 ·refine oT hF 0 (aD (c:=false) (aK hc8)) rfl rfl fun a hF=>oA hF 0 rfl rfl fun a hF=>E.nil<|wp_cond_false hF.o<|wq ?_
  by_cases hc20:how%4=1
  ·refine oT hF 2 (aD (c:=true) (aA hc20)) rfl rfl fun a hF=>oA hF 0 rfl rfl fun a hF=>E.nil<|wp_cond_true hF.o<|E.seq<|oV hF (az (hF.at 6 rfl) (d8 (p:=2) rfl)) rfl fun a hF=>oV hF (aw hF.o (fB (v:= .bool (decide (smV (ag L0)=smV L0))) (st.bk 0 rfl) rfl)) rfl fun a hF=>?_
   by_cases hc21:decide (smV (ag L0)=smV L0)=true
   ·refine oV hF (dc (Eq.trans hF.o (congrArg Value.bool hc21)) (b7 _ false rfl)) rfl fun a hF=>oV hF (az (hF.at 9 rfl) (d8 (p:=2) rfl)) rfl fun a hF=>?_
    refine S.stooI (o:=2) (vs:=[.bool false]) (ws:=[iv ((smV L0+1)/12-1955883044),iv (puM L0 X0),.bool false,iv (X0%30+1),.bool (decide (X9=X0))]) st hF 0 rfl hF.o hF.p rfl cV rfl rfl rfl rfl fun w22 a st hF=>?_
    refine E.nil0<|E.blk<|E.norm<|wq<|oL hF st 10 0 aG rfl rfl rfl rfl fun a hF=>oL hF st 13 1 aM rfl rfl rfl rfl fun a hF=>cX st hF (rgc k36 (aH hF.p hF.o)) (fu ((smV L0+1)/12-1955883044) (puM L0 X0) false (X0%30+1) (decide (X9=X0)) pa pb pc pd _ (hT.below st.bel) (by first|assumption|constructor<;>omega) (by omega) (by omega) (by omega) (by omega) (by omega) (by omega)) rfl fun w23 a st hF=>oM hF 0 rfl rfl fun a hF=>oV hF (av (v:= iv (puN pa pb pc pd ((smV L0+1)/12-1955883044) (puM L0 X0) false (X0%30+1) (decide (X9=X0)))) hF.o rfl) rfl fun a hF=>oV hF (av (v:= iv (puE pa pb pc pd ((smV L0+1)/12-1955883044) (puM L0 X0) false (X0%30+1) (decide (X9=X0)))) hF.p rfl) rfl fun a hF=>oA hF 1 rfl rfl fun a hF=>oA hF 1 rfl rfl fun a hF=>?_
    obtain⟨nn,hN⟩:∃z:Int,puN pa pb pc pd ((smV L0+1)/12-1955883044) (puM L0 X0) false (X0%30+1) (decide (X9=X0))=z:=⟨_,rfl⟩
    obtain⟨ee,hE⟩:∃z:Int,puE pa pb pc pd ((smV L0+1)/12-1955883044) (puM L0 X0) false (X0%30+1) (decide (X9=X0))=z:=⟨_,rfl⟩
    have hsp:=gi pa pb pc pd ((smV L0+1)/12-1955883044) (puM L0 X0) false (X0%30+1) (decide (X9=X0))
    rw[hN,hE] at hsp
    have hsq:ee=0\/(ee=3/\nn=0):=hsp.elim (fun h=> .inl h.1) (fun h=> .inr ⟨h.1,h.2.1⟩)
    have hfp:ee=0->puP pa pb pc pd ((smV L0+1)/12-1955883044) (puM L0 X0) false (X0%30+1) (decide (X9=X0)) nn:=fun z=>hsp.elim (fun h=>h.2) (fun h=>absurd (z.symm.trans h.1) (by decide))
    clear hsp
    replace hF:Fr 80 a [(12,iv ee),(11,iv nn),(58,iv (puE pa pb pc pd ((smV L0+1)/12-1955883044) (puM L0 X0) false (X0%30+1) (decide (X9=X0)))),(57,iv (puN pa pb pc pd ((smV L0+1)/12-1955883044) (puM L0 X0) false (X0%30+1) (decide (X9=X0)))),(53,.tuple #[iv (puN pa pb pc pd ((smV L0+1)/12-1955883044) (puM L0 X0) false (X0%30+1) (decide (X9=X0))),iv (puE pa pb pc pd ((smV L0+1)/12-1955883044) (puM L0 X0) false (X0%30+1) (decide (X9=X0)))]),(56,.tuple #[iv (puN pa pb pc pd ((smV L0+1)/12-1955883044) (puM L0 X0) false (X0%30+1) (decide (X9=X0))),iv (puE pa pb pc pd ((smV L0+1)/12-1955883044) (puM L0 X0) false (X0%30+1) (decide (X9=X0)))]),(55,.agg #[iv pa,iv pb,iv pc,iv pd]),(54,.agg #[iv ((smV L0+1)/12-1955883044),iv (puM L0 X0),.bool false,iv (X0%30+1),.bool (decide (X9=X0))]),(36,.pointer (some ⟨g10,2,none⟩)),(35,.bool false),(34,.bool (decide (smV (ag L0)=smV L0))),(33,.pointer (some ⟨g10,2,none⟩)),(31,.bool true),(32,.bool true),(25,.bool false),(26,.bool false),(24,iv (how%4)),(23,iv how),(10,.pointer (some ⟨g10,0,none⟩)),(22,.agg #[iv ((smV L0+1)/12-1955883044),iv (puM L0 X0),.bool (decide (smV (ag L0)=smV L0)),iv (X0%30+1),.bool (decide (X9=X0))]),(9,.pointer (some ⟨g9,0,none⟩)),(18,.agg #[iv pa,iv pb,iv pc,iv pd]),(17,.agg #[iv wa,iv wb,iv wc,iv wd]),(16,.bool false),(15,.bool true),(8,.bool false),(7,.pointer (some ⟨g7,0,none⟩)),(5,.pointer (some ⟨g5,0,none⟩)),(0,iv n),(1,.agg #[iv y,iv m,.bool l,iv x,.bool u]),(2,iv how),(3,.agg #[iv wa,iv wb,iv wc,iv wd])]:=by rw[<-hN];rw[<-hE];exact hF
    refine ns<|wq<|oM hF 0 rfl rfl fun a hF=>?_
    by_cases hc24:ee=0
    ·refine oT hF 0 (bn (c:=false) (aK (fun e=>e hc24))) rfl rfl fun a hF=>?_
     have hp:=hfp hc24
     have hp0:=hp.1
     have hp1:=hp.2.1
     refine E.nil<|wp_cond_false hF.o<|wp_skip<|E.norm<|wq<|oM hF 3 rfl rfl fun a hF=>oL hF st 23 1 aM rfl rfl rfl rfl fun a hF=>cX st hF (rgc k33 (aH hF.p hF.o)) (gS nn pa pb pc pd (amL nn pa pb pc pd) (amX nn pa pb pc pd) (amX (nn-1) pa pb pc pd) _ (hT.below st.bel) (by first|assumption|constructor<;>omega) (by omega) (by omega) rfl rfl rfl) rfl fun w25 a st hF=>oM hF 0 rfl rfl fun a hF=>oV hF (av (v:= .agg #[iv ((smV (amL nn pa pb pc pd)+1)/12-1955883044),iv (puM (amL nn pa pb pc pd) (amX nn pa pb pc pd)),.bool (decide (smV (ag (amL nn pa pb pc pd))=smV (amL nn pa pb pc pd))),iv ((amX nn pa pb pc pd)%30+1),.bool (decide ((amX (nn-1) pa pb pc pd)=(amX nn pa pb pc pd)))]) hF.o rfl) rfl fun a hF=>oV hF (av (v:= iv 0) hF.p rfl) rfl fun a hF=>?_
     refine S.new st hF 1 rfl aG rfl rfl rfl rfl rfl fun g13 w26 a st hF=>?_
     refine oA hF 1 rfl rfl fun a hF=>nq<|oM hF 0 rfl rfl fun a hF=>oT hF 0 (aD (c:=true) (by decide)) rfl rfl fun a hF=>oM hF 0 rfl rfl fun a hF=>og hF (aw (hF.at 4 rfl) (aZ aG (st.bk 0 rfl) rfl)) 0 rfl rfl rfl fun a hF=>og hF (aw (hF.at 32 rfl) (aZ aG (st.bk 1 rfl) rfl)) 1 rfl rfl rfl fun a hF=>og hF (ao hF.p hF.o dq (dD (aA ⟨hp.2.2.1,hp.2.2.2.1,hp.2.2.2.2.1,hp.2.2.2.2.2.1,hp.2.2.2.2.2.2⟩))) 2 rfl rfl rfl fun a hF=>oV hF (aB (hF.at 3 rfl) hF.o) rfl fun a hF=>?_
     refine oE hF 0 rfl rfl fun a hF=>nr ?_
     have bel:=st.bel
     refine rt Tryz.results11 hF 0 rfl ?_
     exact⟨rfl,bel⟩
    ·refine oT hF 0 (bn (c:=true) (aA (hc24))) rfl rfl fun a hF=>E.nil<|wp_cond_true hF.o<|wq<|oM hF 2 rfl rfl fun a hF=>oT hF 0 (aD (c:=true) (aA (by omega))) rfl rfl fun a hF=>oM hF 0 rfl rfl fun a hF=>og hF (aC (hF.at 6 rfl)) 0 rfl rfl rfl fun a hF=>og hF (ao hF.o aq ah (aO (aD (c:=true) (aA (by omega))) (by simp))) 1 rfl rfl rfl fun a hF=>oV hF (aB hF.q hF.o) rfl fun a hF=>oE hF 0 rfl rfl fun a hF=>nr ?_
     have bel:=st.bel
     refine rt Tryz.results11 hF 0 rfl ?_
     exact⟨rfl,bel⟩
   ·refine oV hF (dc (Eq.trans hF.o (congrArg Value.bool (eq_false_of_ne_true hc21))) (b7 _ true rfl)) rfl fun a hF=>oV hF (az (hF.at 9 rfl) (d8 (p:=2) rfl)) rfl fun a hF=>?_
    refine S.stooI (o:=2) (vs:=[.bool true]) (ws:=[iv ((smV L0+1)/12-1955883044),iv (puM L0 X0),.bool true,iv (X0%30+1),.bool (decide (X9=X0))]) st hF 0 rfl hF.o hF.p rfl cV rfl rfl rfl rfl fun w27 a st hF=>?_
    refine E.nil0<|E.blk<|E.norm<|wq<|oL hF st 10 0 aG rfl rfl rfl rfl fun a hF=>oL hF st 13 1 aM rfl rfl rfl rfl fun a hF=>cX st hF (rgc k36 (aH hF.p hF.o)) (fu ((smV L0+1)/12-1955883044) (puM L0 X0) true (X0%30+1) (decide (X9=X0)) pa pb pc pd _ (hT.below st.bel) (by first|assumption|constructor<;>omega) (by omega) (by omega) (by omega) (by omega) (by omega) (by omega)) rfl fun w28 a st hF=>oM hF 0 rfl rfl fun a hF=>oV hF (av (v:= iv (puN pa pb pc pd ((smV L0+1)/12-1955883044) (puM L0 X0) true (X0%30+1) (decide (X9=X0)))) hF.o rfl) rfl fun a hF=>oV hF (av (v:= iv (puE pa pb pc pd ((smV L0+1)/12-1955883044) (puM L0 X0) true (X0%30+1) (decide (X9=X0)))) hF.p rfl) rfl fun a hF=>oA hF 1 rfl rfl fun a hF=>oA hF 1 rfl rfl fun a hF=>?_
    obtain⟨nn,hN⟩:∃z:Int,puN pa pb pc pd ((smV L0+1)/12-1955883044) (puM L0 X0) true (X0%30+1) (decide (X9=X0))=z:=⟨_,rfl⟩
    obtain⟨ee,hE⟩:∃z:Int,puE pa pb pc pd ((smV L0+1)/12-1955883044) (puM L0 X0) true (X0%30+1) (decide (X9=X0))=z:=⟨_,rfl⟩
    have hsp:=gi pa pb pc pd ((smV L0+1)/12-1955883044) (puM L0 X0) true (X0%30+1) (decide (X9=X0))
    rw[hN,hE] at hsp
    have hsq:ee=0\/(ee=3/\nn=0):=hsp.elim (fun h=> .inl h.1) (fun h=> .inr ⟨h.1,h.2.1⟩)
    have hfp:ee=0->puP pa pb pc pd ((smV L0+1)/12-1955883044) (puM L0 X0) true (X0%30+1) (decide (X9=X0)) nn:=fun z=>hsp.elim (fun h=>h.2) (fun h=>absurd (z.symm.trans h.1) (by decide))
    clear hsp
    replace hF:Fr 80 a [(12,iv ee),(11,iv nn),(58,iv (puE pa pb pc pd ((smV L0+1)/12-1955883044) (puM L0 X0) true (X0%30+1) (decide (X9=X0)))),(57,iv (puN pa pb pc pd ((smV L0+1)/12-1955883044) (puM L0 X0) true (X0%30+1) (decide (X9=X0)))),(53,.tuple #[iv (puN pa pb pc pd ((smV L0+1)/12-1955883044) (puM L0 X0) true (X0%30+1) (decide (X9=X0))),iv (puE pa pb pc pd ((smV L0+1)/12-1955883044) (puM L0 X0) true (X0%30+1) (decide (X9=X0)))]),(56,.tuple #[iv (puN pa pb pc pd ((smV L0+1)/12-1955883044) (puM L0 X0) true (X0%30+1) (decide (X9=X0))),iv (puE pa pb pc pd ((smV L0+1)/12-1955883044) (puM L0 X0) true (X0%30+1) (decide (X9=X0)))]),(55,.agg #[iv pa,iv pb,iv pc,iv pd]),(54,.agg #[iv ((smV L0+1)/12-1955883044),iv (puM L0 X0),.bool true,iv (X0%30+1),.bool (decide (X9=X0))]),(36,.pointer (some ⟨g10,2,none⟩)),(35,.bool true),(34,.bool (decide (smV (ag L0)=smV L0))),(33,.pointer (some ⟨g10,2,none⟩)),(31,.bool true),(32,.bool true),(25,.bool false),(26,.bool false),(24,iv (how%4)),(23,iv how),(10,.pointer (some ⟨g10,0,none⟩)),(22,.agg #[iv ((smV L0+1)/12-1955883044),iv (puM L0 X0),.bool (decide (smV (ag L0)=smV L0)),iv (X0%30+1),.bool (decide (X9=X0))]),(9,.pointer (some ⟨g9,0,none⟩)),(18,.agg #[iv pa,iv pb,iv pc,iv pd]),(17,.agg #[iv wa,iv wb,iv wc,iv wd]),(16,.bool false),(15,.bool true),(8,.bool false),(7,.pointer (some ⟨g7,0,none⟩)),(5,.pointer (some ⟨g5,0,none⟩)),(0,iv n),(1,.agg #[iv y,iv m,.bool l,iv x,.bool u]),(2,iv how),(3,.agg #[iv wa,iv wb,iv wc,iv wd])]:=by rw[<-hN];rw[<-hE];exact hF
    refine ns<|wq<|oM hF 0 rfl rfl fun a hF=>?_
    by_cases hc29:ee=0
    ·refine oT hF 0 (bn (c:=false) (aK (fun e=>e hc29))) rfl rfl fun a hF=>?_
     have hp:=hfp hc29
     have hp0:=hp.1
     have hp1:=hp.2.1
     refine E.nil<|wp_cond_false hF.o<|wp_skip<|E.norm<|wq<|oM hF 3 rfl rfl fun a hF=>oL hF st 23 1 aM rfl rfl rfl rfl fun a hF=>cX st hF (rgc k33 (aH hF.p hF.o)) (gS nn pa pb pc pd (amL nn pa pb pc pd) (amX nn pa pb pc pd) (amX (nn-1) pa pb pc pd) _ (hT.below st.bel) (by first|assumption|constructor<;>omega) (by omega) (by omega) rfl rfl rfl) rfl fun w30 a st hF=>oM hF 0 rfl rfl fun a hF=>oV hF (av (v:= .agg #[iv ((smV (amL nn pa pb pc pd)+1)/12-1955883044),iv (puM (amL nn pa pb pc pd) (amX nn pa pb pc pd)),.bool (decide (smV (ag (amL nn pa pb pc pd))=smV (amL nn pa pb pc pd))),iv ((amX nn pa pb pc pd)%30+1),.bool (decide ((amX (nn-1) pa pb pc pd)=(amX nn pa pb pc pd)))]) hF.o rfl) rfl fun a hF=>oV hF (av (v:= iv 0) hF.p rfl) rfl fun a hF=>?_
     refine S.new st hF 1 rfl aG rfl rfl rfl rfl rfl fun g13 w31 a st hF=>?_
     refine oA hF 1 rfl rfl fun a hF=>nq<|oM hF 0 rfl rfl fun a hF=>oT hF 0 (aD (c:=true) (by decide)) rfl rfl fun a hF=>oM hF 0 rfl rfl fun a hF=>og hF (aw (hF.at 4 rfl) (aZ aG (st.bk 0 rfl) rfl)) 0 rfl rfl rfl fun a hF=>og hF (aw (hF.at 32 rfl) (aZ aG (st.bk 1 rfl) rfl)) 1 rfl rfl rfl fun a hF=>og hF (ao hF.p hF.o dq (dD (aA ⟨hp.2.2.1,hp.2.2.2.1,hp.2.2.2.2.1,hp.2.2.2.2.2.1,hp.2.2.2.2.2.2⟩))) 2 rfl rfl rfl fun a hF=>oV hF (aB (hF.at 3 rfl) hF.o) rfl fun a hF=>?_
     refine oE hF 0 rfl rfl fun a hF=>nr ?_
     have bel:=st.bel
     refine rt Tryz.results11 hF 0 rfl ?_
     exact⟨rfl,bel⟩
    ·refine oT hF 0 (bn (c:=true) (aA (hc29))) rfl rfl fun a hF=>E.nil<|wp_cond_true hF.o<|wq<|oM hF 2 rfl rfl fun a hF=>oT hF 0 (aD (c:=true) (aA (by omega))) rfl rfl fun a hF=>oM hF 0 rfl rfl fun a hF=>og hF (aC (hF.at 6 rfl)) 0 rfl rfl rfl fun a hF=>og hF (ao hF.o aq ah (aO (aD (c:=true) (aA (by omega))) (by simp))) 1 rfl rfl rfl fun a hF=>oV hF (aB hF.q hF.o) rfl fun a hF=>oE hF 0 rfl rfl fun a hF=>nr ?_
     have bel:=st.bel
     refine rt Tryz.results11 hF 0 rfl ?_
     exact⟨rfl,bel⟩
  ·refine oT hF 2 (aD (c:=false) (aK hc20)) rfl rfl fun a hF=>oA hF 0 rfl rfl fun a hF=>E.nil<|wp_cond_false hF.o<|wq ?_
   by_cases hc32:how%4=2
   ·refine oT hF 4 (aD (c:=true) (aA hc32)) rfl rfl fun a hF=>oA hF 0 rfl rfl fun a hF=>E.nil<|wp_cond_true hF.o<|E.seq<|oV hF (az (hF.at 17 rfl) (cS (p:=3) rfl)) rfl fun a hF=>oV hF (aw hF.o (bj (v:= iv x) (st.bk 3 rfl) rfl)) rfl fun a hF=>oV hF (ao hF.o aq ah (fV (n:=8) (by decide) (d:=256) (by decide) (by decide))) rfl fun a hF=>oV hF (ao hF.o aq ah (dT (a:=x%256) (b:=30) (by omega) (by omega))) rfl fun a hF=>oV hF (ao aq hF.o ah (aU (by omega) (by omega))) rfl fun a hF=>oV hF (az (hF.at 13 rfl) (cS (p:=3) rfl)) rfl fun a hF=>?_
    refine S.stooI (o:=3) (vs:=[iv (1+((x%256)%30))]) (ws:=[iv ((smV L0+1)/12-1955883044),iv (puM L0 X0),.bool (decide (smV (ag L0)=smV L0)),iv (1+((x%256)%30)),.bool (decide (X9=X0))]) st hF 0 rfl hF.o hF.p rfl cT rfl rfl rfl rfl fun w33 a st hF=>?_
    refine E.nil0<|E.blk<|E.norm<|wq<|oL hF st 14 0 aG rfl rfl rfl rfl fun a hF=>oL hF st 17 1 aM rfl rfl rfl rfl fun a hF=>cX st hF (rgc k36 (aH hF.p hF.o)) (fu ((smV L0+1)/12-1955883044) (puM L0 X0) (decide (smV (ag L0)=smV L0)) (1+((x%256)%30)) (decide (X9=X0)) pa pb pc pd _ (hT.below st.bel) (by first|assumption|constructor<;>omega) (by omega) (by omega) (by omega) (by omega) (by omega) (by omega)) rfl fun w34 a st hF=>oM hF 0 rfl rfl fun a hF=>oV hF (av (v:= iv (puN pa pb pc pd ((smV L0+1)/12-1955883044) (puM L0 X0) (decide (smV (ag L0)=smV L0)) (1+((x%256)%30)) (decide (X9=X0)))) hF.o rfl) rfl fun a hF=>oV hF (av (v:= iv (puE pa pb pc pd ((smV L0+1)/12-1955883044) (puM L0 X0) (decide (smV (ag L0)=smV L0)) (1+((x%256)%30)) (decide (X9=X0)))) hF.p rfl) rfl fun a hF=>oA hF 1 rfl rfl fun a hF=>oA hF 1 rfl rfl fun a hF=>?_
    obtain⟨nn,hN⟩:∃z:Int,puN pa pb pc pd ((smV L0+1)/12-1955883044) (puM L0 X0) (decide (smV (ag L0)=smV L0)) (1+((x%256)%30)) (decide (X9=X0))=z:=⟨_,rfl⟩
    obtain⟨ee,hE⟩:∃z:Int,puE pa pb pc pd ((smV L0+1)/12-1955883044) (puM L0 X0) (decide (smV (ag L0)=smV L0)) (1+((x%256)%30)) (decide (X9=X0))=z:=⟨_,rfl⟩
    have hsp:=gi pa pb pc pd ((smV L0+1)/12-1955883044) (puM L0 X0) (decide (smV (ag L0)=smV L0)) (1+((x%256)%30)) (decide (X9=X0))
    rw[hN,hE] at hsp
    have hsq:ee=0\/(ee=3/\nn=0):=hsp.elim (fun h=> .inl h.1) (fun h=> .inr ⟨h.1,h.2.1⟩)
    have hfp:ee=0->puP pa pb pc pd ((smV L0+1)/12-1955883044) (puM L0 X0) (decide (smV (ag L0)=smV L0)) (1+((x%256)%30)) (decide (X9=X0)) nn:=fun z=>hsp.elim (fun h=>h.2) (fun h=>absurd (z.symm.trans h.1) (by decide))
    clear hsp
    replace hF:Fr 80 a [(12,iv ee),(11,iv nn),(58,iv (puE pa pb pc pd ((smV L0+1)/12-1955883044) (puM L0 X0) (decide (smV (ag L0)=smV L0)) (1+((x%256)%30)) (decide (X9=X0)))),(57,iv (puN pa pb pc pd ((smV L0+1)/12-1955883044) (puM L0 X0) (decide (smV (ag L0)=smV L0)) (1+((x%256)%30)) (decide (X9=X0)))),(53,.tuple #[iv (puN pa pb pc pd ((smV L0+1)/12-1955883044) (puM L0 X0) (decide (smV (ag L0)=smV L0)) (1+((x%256)%30)) (decide (X9=X0))),iv (puE pa pb pc pd ((smV L0+1)/12-1955883044) (puM L0 X0) (decide (smV (ag L0)=smV L0)) (1+((x%256)%30)) (decide (X9=X0)))]),(56,.tuple #[iv (puN pa pb pc pd ((smV L0+1)/12-1955883044) (puM L0 X0) (decide (smV (ag L0)=smV L0)) (1+((x%256)%30)) (decide (X9=X0))),iv (puE pa pb pc pd ((smV L0+1)/12-1955883044) (puM L0 X0) (decide (smV (ag L0)=smV L0)) (1+((x%256)%30)) (decide (X9=X0)))]),(55,.agg #[iv pa,iv pb,iv pc,iv pd]),(54,.agg #[iv ((smV L0+1)/12-1955883044),iv (puM L0 X0),.bool (decide (smV (ag L0)=smV L0)),iv (1+((x%256)%30)),.bool (decide (X9=X0))]),(44,.pointer (some ⟨g10,3,none⟩)),(43,iv (1+((x%256)%30))),(42,iv ((x%256)%30)),(41,iv (x%256)),(40,iv x),(39,.pointer (some ⟨g5,3,none⟩)),(37,.bool true),(38,.bool true),(31,.bool false),(32,.bool false),(25,.bool false),(26,.bool false),(24,iv (how%4)),(23,iv how),(10,.pointer (some ⟨g10,0,none⟩)),(22,.agg #[iv ((smV L0+1)/12-1955883044),iv (puM L0 X0),.bool (decide (smV (ag L0)=smV L0)),iv (X0%30+1),.bool (decide (X9=X0))]),(9,.pointer (some ⟨g9,0,none⟩)),(18,.agg #[iv pa,iv pb,iv pc,iv pd]),(17,.agg #[iv wa,iv wb,iv wc,iv wd]),(16,.bool false),(15,.bool true),(8,.bool false),(7,.pointer (some ⟨g7,0,none⟩)),(5,.pointer (some ⟨g5,0,none⟩)),(0,iv n),(1,.agg #[iv y,iv m,.bool l,iv x,.bool u]),(2,iv how),(3,.agg #[iv wa,iv wb,iv wc,iv wd])]:=by rw[<-hN];rw[<-hE];exact hF
    refine ns<|wq<|oM hF 0 rfl rfl fun a hF=>?_
    by_cases hc35:ee=0
    ·refine oT hF 0 (bn (c:=false) (aK (fun e=>e hc35))) rfl rfl fun a hF=>?_
     have hp:=hfp hc35
     have hp0:=hp.1
     have hp1:=hp.2.1
     refine E.nil<|wp_cond_false hF.o<|wp_skip<|E.norm<|wq<|oM hF 3 rfl rfl fun a hF=>oL hF st 27 1 aM rfl rfl rfl rfl fun a hF=>cX st hF (rgc k33 (aH hF.p hF.o)) (gS nn pa pb pc pd (amL nn pa pb pc pd) (amX nn pa pb pc pd) (amX (nn-1) pa pb pc pd) _ (hT.below st.bel) (by first|assumption|constructor<;>omega) (by omega) (by omega) rfl rfl rfl) rfl fun w36 a st hF=>oM hF 0 rfl rfl fun a hF=>oV hF (av (v:= .agg #[iv ((smV (amL nn pa pb pc pd)+1)/12-1955883044),iv (puM (amL nn pa pb pc pd) (amX nn pa pb pc pd)),.bool (decide (smV (ag (amL nn pa pb pc pd))=smV (amL nn pa pb pc pd))),iv ((amX nn pa pb pc pd)%30+1),.bool (decide ((amX (nn-1) pa pb pc pd)=(amX nn pa pb pc pd)))]) hF.o rfl) rfl fun a hF=>oV hF (av (v:= iv 0) hF.p rfl) rfl fun a hF=>?_
     refine S.new st hF 1 rfl aG rfl rfl rfl rfl rfl fun g13 w37 a st hF=>?_
     refine oA hF 1 rfl rfl fun a hF=>nq<|oM hF 0 rfl rfl fun a hF=>oT hF 0 (aD (c:=true) (by decide)) rfl rfl fun a hF=>oM hF 0 rfl rfl fun a hF=>og hF (aw (hF.at 4 rfl) (aZ aG (st.bk 0 rfl) rfl)) 0 rfl rfl rfl fun a hF=>og hF (aw (hF.at 36 rfl) (aZ aG (st.bk 1 rfl) rfl)) 1 rfl rfl rfl fun a hF=>og hF (ao hF.p hF.o dq (dD (aA ⟨hp.2.2.1,hp.2.2.2.1,hp.2.2.2.2.1,hp.2.2.2.2.2.1,hp.2.2.2.2.2.2⟩))) 2 rfl rfl rfl fun a hF=>oV hF (aB (hF.at 3 rfl) hF.o) rfl fun a hF=>?_
     refine oE hF 0 rfl rfl fun a hF=>nr ?_
     have bel:=st.bel
     refine rt Tryz.results11 hF 0 rfl ?_
     exact⟨rfl,bel⟩
    ·refine oT hF 0 (bn (c:=true) (aA (hc35))) rfl rfl fun a hF=>E.nil<|wp_cond_true hF.o<|wq<|oM hF 2 rfl rfl fun a hF=>oT hF 0 (aD (c:=true) (aA (by omega))) rfl rfl fun a hF=>oM hF 0 rfl rfl fun a hF=>og hF (aC (hF.at 6 rfl)) 0 rfl rfl rfl fun a hF=>og hF (ao hF.o aq ah (aO (aD (c:=true) (aA (by omega))) (by simp))) 1 rfl rfl rfl fun a hF=>oV hF (aB hF.q hF.o) rfl fun a hF=>oE hF 0 rfl rfl fun a hF=>nr ?_
     have bel:=st.bel
     refine rt Tryz.results11 hF 0 rfl ?_
     exact⟨rfl,bel⟩
   ·refine oT hF 4 (aD (c:=false) (aK hc32)) rfl rfl fun a hF=>oA hF 0 rfl rfl fun a hF=>E.nil<|wp_cond_false hF.o<|wq ?_
    by_cases hc38:how%4=3
    ·refine oT hF 6 (aD (c:=true) (aA hc38)) rfl rfl fun a hF=>oA hF 0 rfl rfl fun a hF=>E.nil<|wp_cond_true hF.o<|E.seq<|oV hF (az (hF.at 19 rfl) (ce (p:=1) rfl)) rfl fun a hF=>oV hF (aw hF.o (bj (v:= iv m) (st.bk 3 rfl) rfl)) rfl fun a hF=>oV hF (ao hF.o aq ah (fV (n:=8) (by decide) (d:=256) (by decide) (by decide))) rfl fun a hF=>oV hF (ao hF.o aq ah (dT (a:=m%256) (b:=12) (by omega) (by omega))) rfl fun a hF=>oV hF (ao aq hF.o ah (aU (by omega) (by omega))) rfl fun a hF=>oV hF (az (hF.at 15 rfl) (ce (p:=1) rfl)) rfl fun a hF=>?_
     refine S.stooI (o:=1) (vs:=[iv (1+((m%256)%12))]) (ws:=[iv ((smV L0+1)/12-1955883044),iv (1+((m%256)%12)),.bool (decide (smV (ag L0)=smV L0)),iv (X0%30+1),.bool (decide (X9=X0))]) st hF 0 rfl hF.o hF.p rfl cT rfl rfl rfl rfl fun w39 a st hF=>?_
     refine E.nil0<|E.blk<|E.norm<|wq<|oL hF st 16 0 aG rfl rfl rfl rfl fun a hF=>oL hF st 19 1 aM rfl rfl rfl rfl fun a hF=>cX st hF (rgc k36 (aH hF.p hF.o)) (fu ((smV L0+1)/12-1955883044) (1+((m%256)%12)) (decide (smV (ag L0)=smV L0)) (X0%30+1) (decide (X9=X0)) pa pb pc pd _ (hT.below st.bel) (by first|assumption|constructor<;>omega) (by omega) (by omega) (by omega) (by omega) (by omega) (by omega)) rfl fun w40 a st hF=>oM hF 0 rfl rfl fun a hF=>oV hF (av (v:= iv (puN pa pb pc pd ((smV L0+1)/12-1955883044) (1+((m%256)%12)) (decide (smV (ag L0)=smV L0)) (X0%30+1) (decide (X9=X0)))) hF.o rfl) rfl fun a hF=>oV hF (av (v:= iv (puE pa pb pc pd ((smV L0+1)/12-1955883044) (1+((m%256)%12)) (decide (smV (ag L0)=smV L0)) (X0%30+1) (decide (X9=X0)))) hF.p rfl) rfl fun a hF=>oA hF 1 rfl rfl fun a hF=>oA hF 1 rfl rfl fun a hF=>?_
     obtain⟨nn,hN⟩:∃z:Int,puN pa pb pc pd ((smV L0+1)/12-1955883044) (1+((m%256)%12)) (decide (smV (ag L0)=smV L0)) (X0%30+1) (decide (X9=X0))=z:=⟨_,rfl⟩
     obtain⟨ee,hE⟩:∃z:Int,puE pa pb pc pd ((smV L0+1)/12-1955883044) (1+((m%256)%12)) (decide (smV (ag L0)=smV L0)) (X0%30+1) (decide (X9=X0))=z:=⟨_,rfl⟩
     have hsp:=gi pa pb pc pd ((smV L0+1)/12-1955883044) (1+((m%256)%12)) (decide (smV (ag L0)=smV L0)) (X0%30+1) (decide (X9=X0))
     rw[hN,hE] at hsp
     have hsq:ee=0\/(ee=3/\nn=0):=hsp.elim (fun h=> .inl h.1) (fun h=> .inr ⟨h.1,h.2.1⟩)
     have hfp:ee=0->puP pa pb pc pd ((smV L0+1)/12-1955883044) (1+((m%256)%12)) (decide (smV (ag L0)=smV L0)) (X0%30+1) (decide (X9=X0)) nn:=fun z=>hsp.elim (fun h=>h.2) (fun h=>absurd (z.symm.trans h.1) (by decide))
     clear hsp
     replace hF:Fr 80 a [(12,iv ee),(11,iv nn),(58,iv (puE pa pb pc pd ((smV L0+1)/12-1955883044) (1+((m%256)%12)) (decide (smV (ag L0)=smV L0)) (X0%30+1) (decide (X9=X0)))),(57,iv (puN pa pb pc pd ((smV L0+1)/12-1955883044) (1+((m%256)%12)) (decide (smV (ag L0)=smV L0)) (X0%30+1) (decide (X9=X0)))),(53,.tuple #[iv (puN pa pb pc pd ((smV L0+1)/12-1955883044) (1+((m%256)%12)) (decide (smV (ag L0)=smV L0)) (X0%30+1) (decide (X9=X0))),iv (puE pa pb pc pd ((smV L0+1)/12-1955883044) (1+((m%256)%12)) (decide (smV (ag L0)=smV L0)) (X0%30+1) (decide (X9=X0)))]),(56,.tuple #[iv (puN pa pb pc pd ((smV L0+1)/12-1955883044) (1+((m%256)%12)) (decide (smV (ag L0)=smV L0)) (X0%30+1) (decide (X9=X0))),iv (puE pa pb pc pd ((smV L0+1)/12-1955883044) (1+((m%256)%12)) (decide (smV (ag L0)=smV L0)) (X0%30+1) (decide (X9=X0)))]),(55,.agg #[iv pa,iv pb,iv pc,iv pd]),(54,.agg #[iv ((smV L0+1)/12-1955883044),iv (1+((m%256)%12)),.bool (decide (smV (ag L0)=smV L0)),iv (X0%30+1),.bool (decide (X9=X0))]),(52,.pointer (some ⟨g10,1,none⟩)),(51,iv (1+((m%256)%12))),(50,iv ((m%256)%12)),(49,iv (m%256)),(48,iv m),(47,.pointer (some ⟨g5,1,none⟩)),(45,.bool true),(46,.bool true),(37,.bool false),(38,.bool false),(31,.bool false),(32,.bool false),(25,.bool false),(26,.bool false),(24,iv (how%4)),(23,iv how),(10,.pointer (some ⟨g10,0,none⟩)),(22,.agg #[iv ((smV L0+1)/12-1955883044),iv (puM L0 X0),.bool (decide (smV (ag L0)=smV L0)),iv (X0%30+1),.bool (decide (X9=X0))]),(9,.pointer (some ⟨g9,0,none⟩)),(18,.agg #[iv pa,iv pb,iv pc,iv pd]),(17,.agg #[iv wa,iv wb,iv wc,iv wd]),(16,.bool false),(15,.bool true),(8,.bool false),(7,.pointer (some ⟨g7,0,none⟩)),(5,.pointer (some ⟨g5,0,none⟩)),(0,iv n),(1,.agg #[iv y,iv m,.bool l,iv x,.bool u]),(2,iv how),(3,.agg #[iv wa,iv wb,iv wc,iv wd])]:=by rw[<-hN];rw[<-hE];exact hF
     refine ns<|wq<|oM hF 0 rfl rfl fun a hF=>?_
     by_cases hc41:ee=0
     ·refine oT hF 0 (bn (c:=false) (aK (fun e=>e hc41))) rfl rfl fun a hF=>?_
      have hp:=hfp hc41
      have hp0:=hp.1
      have hp1:=hp.2.1
      refine E.nil<|wp_cond_false hF.o<|wp_skip<|E.norm<|wq<|oM hF 3 rfl rfl fun a hF=>oL hF st 29 1 aM rfl rfl rfl rfl fun a hF=>cX st hF (rgc k33 (aH hF.p hF.o)) (gS nn pa pb pc pd (amL nn pa pb pc pd) (amX nn pa pb pc pd) (amX (nn-1) pa pb pc pd) _ (hT.below st.bel) (by first|assumption|constructor<;>omega) (by omega) (by omega) rfl rfl rfl) rfl fun w42 a st hF=>oM hF 0 rfl rfl fun a hF=>oV hF (av (v:= .agg #[iv ((smV (amL nn pa pb pc pd)+1)/12-1955883044),iv (puM (amL nn pa pb pc pd) (amX nn pa pb pc pd)),.bool (decide (smV (ag (amL nn pa pb pc pd))=smV (amL nn pa pb pc pd))),iv ((amX nn pa pb pc pd)%30+1),.bool (decide ((amX (nn-1) pa pb pc pd)=(amX nn pa pb pc pd)))]) hF.o rfl) rfl fun a hF=>oV hF (av (v:= iv 0) hF.p rfl) rfl fun a hF=>?_
      refine S.new st hF 1 rfl aG rfl rfl rfl rfl rfl fun g13 w43 a st hF=>?_
      refine oA hF 1 rfl rfl fun a hF=>nq<|oM hF 0 rfl rfl fun a hF=>oT hF 0 (aD (c:=true) (by decide)) rfl rfl fun a hF=>oM hF 0 rfl rfl fun a hF=>og hF (aw (hF.at 4 rfl) (aZ aG (st.bk 0 rfl) rfl)) 0 rfl rfl rfl fun a hF=>og hF (aw (hF.at 38 rfl) (aZ aG (st.bk 1 rfl) rfl)) 1 rfl rfl rfl fun a hF=>og hF (ao hF.p hF.o dq (dD (aA ⟨hp.2.2.1,hp.2.2.2.1,hp.2.2.2.2.1,hp.2.2.2.2.2.1,hp.2.2.2.2.2.2⟩))) 2 rfl rfl rfl fun a hF=>oV hF (aB (hF.at 3 rfl) hF.o) rfl fun a hF=>?_
      refine oE hF 0 rfl rfl fun a hF=>nr ?_
      have bel:=st.bel
      refine rt Tryz.results11 hF 0 rfl ?_
      exact⟨rfl,bel⟩
     ·refine oT hF 0 (bn (c:=true) (aA (hc41))) rfl rfl fun a hF=>E.nil<|wp_cond_true hF.o<|wq<|oM hF 2 rfl rfl fun a hF=>oT hF 0 (aD (c:=true) (aA (by omega))) rfl rfl fun a hF=>oM hF 0 rfl rfl fun a hF=>og hF (aC (hF.at 6 rfl)) 0 rfl rfl rfl fun a hF=>og hF (ao hF.o aq ah (aO (aD (c:=true) (aA (by omega))) (by simp))) 1 rfl rfl rfl fun a hF=>oV hF (aB hF.q hF.o) rfl fun a hF=>oE hF 0 rfl rfl fun a hF=>nr ?_
      have bel:=st.bel
      refine rt Tryz.results11 hF 0 rfl ?_
      exact⟨rfl,bel⟩
    ·exfalso;omega
end Go.Proofs.YtddiipaomejcfaaGreatDoor
