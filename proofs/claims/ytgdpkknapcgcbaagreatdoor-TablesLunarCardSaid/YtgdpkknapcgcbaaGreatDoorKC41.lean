import Derived.Test.YtgdpkknapcgcbaaGreatDoorKC40
namespace Go.Proofs.YtgdpkknapcgcbaaGreatDoor
open Go.RowKit
set_option maxRecDepth 100000
set_option linter.unusedVariables false
set_option maxHeartbeats 8000000
theorem ut {a b c d k L B M:Int} (e:k=L) (hB:beV a b c d L=B) (hM:beV a b c d (aw L)=M):hdC a b c d k=[iv ((smV L+1)%12+1),.bool (decide (smV (aw L)=smV L)),iv B,iv (M-B)]:=by
 subst e hB hM
 rfl
theorem tablesLunar_walk (y0 k0 wa wb wc wd:Int) (w:World) (hT:bE w):
 CV 9 #[iv y0,iv k0,.agg #[iv wa,iv wb,iv wc,iv wd]] w (.bool true):=by
 obtain⟨pa,hpa⟩:∃z:Int,gA 60 120 wa wb=z:=⟨_,rfl⟩
 obtain⟨pb,hpb⟩:∃z:Int,gB wb=z:=⟨_,rfl⟩
 obtain⟨pc,hpc⟩:∃z:Int,gA 180 360 wc wd=z:=⟨_,rfl⟩
 obtain⟨pd,hpd⟩:∃z:Int,gB wd=z:=⟨_,rfl⟩
 have hok:bN pa pb pc pd:=by rw[<-hpa,<-hpb,<-hpc,<-hpd];exact mj wa wb wc wd
 have hp1:=hok.b0
 have hp2:=hok.b1
 have hp3:=hok.a0
 have hp4:=hok.a1
 have hp5:=hok.d0
 have hp6:=hok.d1
 have hp7:=hok.c0
 have hp8:=hok.c1
 obtain⟨y,hy⟩:∃z:Int,(if 0<=y0 then y0%8000 else -(-y0%8000))=z:=⟨_,rfl⟩
 have hyb:=mO (k:=y0) (n:=8000) (by decide)
 rw[hy] at hyb
 obtain⟨D,hD⟩:∃z:Int,yfV (fiS y 1)=z:=⟨_,rfl⟩
 obtain⟨N,hN⟩:∃z:Nat,yrN (fiS y 1)=z:=⟨_,rfl⟩
 have hNb:=KC (fiS y 1)
 rw[hN] at hNb
 have hfs:fiS y 1=12*(y+3044)+(1-2)+23470560000:=rfl
 have hm1:=Int.emod_nonneg (k0%256) (b:=((N:Nat):Int)) (by omega)
 have hm2:=Int.emod_lt_of_pos (k0%256) (b:=((N:Nat):Int)) (by omega)
 obtain⟨j1,hk1⟩:∃j:Nat,k0%256%((N:Nat):Int)=((j:Nat):Int):=⟨(k0%256%((N:Nat):Int)).toNat,by omega⟩
 obtain⟨L1,hL1e⟩:∃z:Int,moD D j1=z:=⟨_,rfl⟩
 have hmL1:=tm hok (fiS y 1) j1
 have hsL1:=AB (fiS y 1) (i:=j1) (by omega)
 rw[hD,hL1e] at hmL1 hsL1
 obtain⟨B1,hB1⟩:∃z:Int,beV pa pb pc pd L1=z:=⟨_,rfl⟩
 rw[show moD D (j1+1)=aw L1 from by rw[<-hL1e];rfl] at hmL1
 obtain⟨B2,hB2⟩:∃z:Int,beV pa pb pc pd (aw L1)=z:=⟨_,rfl⟩
 rw[hB1,hB2] at hmL1
 have hL1:=hmL1.2.2.2.2
 obtain⟨M1,hM1e⟩:∃z:Int,bL L1=z:=⟨_,rfl⟩
 have hM1:amL (B1-1) pa pb pc pd=M1:=by rw[<-hB1,<-hM1e];exact B6 hok hmL1.1
 have hcM:aN M1=true:=by rw[<-hM1e];exact(ce L1).2.2.1
 have hne:¬M1=L1:=by rw[<-hM1e];exact Int.ne_of_lt (ce L1).2.1
 have hw1:=fw (n:=L1) (y:=y) (m:=smV L1-fiS y 1+1) (by unfold fiS at*;omega)
 have hf1:=kM (y:=y) (m:=smV L1-fiS y 1+1) (by omega) (by omega) (by omega) (by omega)
 have hn1:=fj hok hmL1.1
 rw[hB1] at hn1
 obtain⟨X1,hX1⟩:∃z:Int,amX (B1) pa pb pc pd=z:=⟨_,rfl⟩
 obtain⟨X8,hX8⟩:∃z:Int,amX (B1-1) pa pb pc pd=z:=⟨_,rfl⟩
 obtain⟨X7,hX7⟩:∃z:Int,amX (B1-1-1) pa pb pc pd=z:=⟨_,rfl⟩
 refine gs3 (nt:=105) Tryz.func9 rfl rfl rfl fun a st hF=>wq ?_
 refine S.boxI st hF hF.o rfl rfl fun g3 w1 a st hF=>?_
 refine bx st hF 3 rfl rfl fun g5 w2 a st hF=>?_
 refine oC hF rfl fun a hF=>ns<|wq<|cX st hF (rgc k38 fR) (iE _ (hT.below st.bel)) rfl fun w3 a st hF=>oV hF (dF hF.o (cO _ false rfl)) rfl fun a hF=>E.nil<|wp_cond_false hF.o<|wp_skip<|E.norm<|wp_seq ?_
 refine E.rga 5 aM hF [18,19,20,21,7] [_,.ex (iv y),_,_,kb w3 [iv 0,iv 0,iv 0,iv 0]] [4] ⟨fun _ _ ⟨g,e,_,o⟩=>⟨g,e,o.lt⟩,trivial⟩ (by decide+kernel) rfl rfl rfl ⟨rd rfl rfl fun a' w' hF' hb=>(ar (hF'.at 4 rfl) (bl (v:= iv y0) ((st.bk 1 rfl).below hb) rfl)),(by intro a' w' hF' hb hd;have e18:=tE hd 0 rfl;exact dv0 (aq e18 ao aa (iq (by decide) hy)) rfl rfl rfl),rb st oH 3 0 rfl,ck st k17 rfl fun _ s=>bD (kP _ hpa hpb hpc hpd),rai be rfl,trivial⟩ ?_
 intro a w4 hF bb hall hne
 have s0:=st
 replace st:=st.to bb
 replace hF:=rE hall hF 1 rfl rfl
 replace hF:=rE hall hF 3 rfl rfl
 obtain⟨_,e7,g7,rfl,ge7,o7⟩:=sS hall 4 7 rfl rfl
 replace st:=st.push o7 (Nat.le_trans s0.bel.size ge7) (s0.ne ge7)
 clear o7
 replace hF:=hF.add e7
 clear hall bb hne s0
 refine S.stooI (o:=0) (vs:=[iv y]) (ws:=[iv y]) st hF 2 rfl (hF.at 7 rfl) hF.q rfl dz rfl rfl rfl rfl fun w5 a st hF=>?_
 refine S.stoI st hF 0 rfl hF.o hF.p be rfl rfl rfl fun w6 a st hF=>nq<|oV hF (ar (hF.at 7 rfl) (bl (v:= iv y) (st.bk 2 rfl) rfl)) rfl fun a hF=>oL hF st 1 0 be rfl rfl rfl rfl fun a hF=>?_
 refine E.call hF (rgc k43 (aL hF.p hF.o)) (A7 y pa pb pc pd _ (hT.below st.bel) (by first|assumption|constructor<;>omega) (by omega) (by omega) D N hD hN) rfl rfl rfl rfl ?_
 rintro e w7 ⟨_,cap,rfl,hia,bb⟩
 refine⟨_,rfl,?_⟩
 intro a hF
 obtain⟨gr,more,rfl,_,hge,hbk⟩:=hia.row (by omega)
 replace st:=(st.to bb).push hbk (Nat.le_trans st.bel.size hge) (st.ne hge)
 clear hia bb hbk hge
 refine oM hF 0 rfl rfl fun a hF=>oV hF (aH (v:= .slice (some ⟨gr,0,none⟩) N cap) hF.o rfl) rfl fun a hF=>oV hF (aH (v:= iv 0) hF.p rfl) rfl fun a hF=>oA hF 1 rfl rfl fun a hF=>oA hF 1 rfl rfl fun a hF=>ns<|wq<|oM hF 0 rfl rfl fun a hF=>oT hF 0 (db (c:=false) (aJ (by decide))) rfl rfl fun a hF=>oM hF 0 rfl rfl fun a hF=>og hF (aD (hF.at 4 rfl)) 0 rfl rfl rfl fun a hF=>og hF (aW (aG hF.o) pS) 1 rfl rfl rfl fun a hF=>og hF (aq hF.o ao aa (aO (aY (c:=false) (aJ (by omega))) (by simp))) 2 rfl rfl rfl fun a hF=>oV hF (aQ (hF.at 3 rfl) hF.o) rfl fun a hF=>?_
 refine oM hF 0 rfl rfl fun a hF=>og hF (aD (hF.at 9 rfl)) 0 rfl rfl rfl fun a hF=>og hF (aW (aG hF.o) pS) 1 rfl rfl rfl fun a hF=>og hF (aq hF.o ao aa (aO (bT (c:=false) (aJ (by omega))) (by simp))) 2 rfl rfl rfl fun a hF=>oV hF (aQ (hF.at 3 rfl) hF.o) rfl fun a hF=>E.nil<|wp_cond_false hF.o<|wp_skip<|E.norm<|wp_seq<|wq<|oM hF 13 rfl rfl fun a hF=>oV hF (aW (aG hF.o) pS) rfl fun a hF=>oV hF (aD ao) rfl fun a hF=>?_
 refine E.nil<|wp_block ?_
 refine E.loop (fun mq a wv=>∃(i:Nat),i<=N/\Fr 105 a [(42,iv ((i:Nat):Int)),(41,iv ((N:Nat):Int)),(40,.slice (some ⟨gr,0,none⟩) N cap),(8,.slice (some ⟨gr,0,none⟩) N cap),(25,.tuple #[.slice (some ⟨gr,0,none⟩) N cap,iv 0]),(7,.pointer (some ⟨g7,0,none⟩)),(3,.pointer (some ⟨g3,0,none⟩)),(1,iv k0)]/\St w wv [(gr,hdF pa pb pc pd D N++more),(g7,[iv pa,iv pb,iv pc,iv pd]),(g3,[iv y])] []/\mq=N-i) ((N-0)) ?_ ?_
 ·exact⟨0,(by omega),Fr.pick (L':=[(42,iv 0),(41,iv ((N:Nat):Int)),(40,.slice (some ⟨gr,0,none⟩) N cap),(8,.slice (some ⟨gr,0,none⟩) N cap),(25,.tuple #[.slice (some ⟨gr,0,none⟩) N cap,iv 0]),(7,.pointer (some ⟨g7,0,none⟩)),(3,.pointer (some ⟨g3,0,none⟩)),(1,iv k0)]) hF [0,1,2,16,20,23,30,32] rfl,st.pick [0,1,3] [] rfl rfl (by decide),rfl⟩
 ·rintro mq a w8 ⟨i,hi2,hF,st,hm⟩
  by_cases hlt:i<N
  ·obtain⟨Li,hLie⟩:∃z:Int,moD D i=z:=⟨_,rfl⟩
   have hmLi:=tm hok (fiS y 1) i
   have hsLi:=AB (fiS y 1) (i:=i) (by omega)
   rw[hD,hLie] at hmLi hsLi
   obtain⟨Bi,hBi⟩:∃z:Int,beV pa pb pc pd Li=z:=⟨_,rfl⟩
   rw[show moD D (i+1)=aw Li from by rw[<-hLie];rfl] at hmLi
   obtain⟨Bn,hBn⟩:∃z:Int,beV pa pb pc pd (aw Li)=z:=⟨_,rfl⟩
   rw[hBi,hBn] at hmLi
   obtain⟨Lj,hLje⟩:∃z:Int,moD D (i-1)=z:=⟨_,rfl⟩
   have hnj:0<i->aw Lj=Li:=fun hp=>by rw[<-hLje,<-hLie];show moD D (i-1+1)=_;rw[Nat.sub_add_cancel hp]
   obtain⟨Bj,hBj⟩:∃z:Int,beV pa pb pc pd Lj=z:=⟨_,rfl⟩
   have hBji:0<i->beV pa pb pc pd (aw Lj)=Bi:=fun hp=>by rw[hnj hp];exact hBi
   have hwi:=fw (n:=Li) (y:=y) (m:=smV Li-fiS y 1+1) (by unfold fiS at*;omega)
   have hfi:=kM (y:=y) (m:=smV Li-fiS y 1+1) (by omega) (by omega) (by omega) (by omega)
   have hni:=fj hok hmLi.1
   rw[hBi] at hni
   refine wq ?_
   refine oU hF 0 1 (aY (c:=true) (aI (by omega))) rfl rfl rfl fun a hF=>ns<|wp_cond_true hF.o<|wp_skip<|E.norm<|wp_seq<|wp_block<|wq<|oM hF 1 rfl rfl fun a hF=>oV hF (bS (hF.at 4 rfl) hF.q (sr (i:=i) (by omega) (by omega))) rfl fun a hF=>oV hF (ar hF.o (BW (vs:=[iv ((smV Li+1)%12+1),.bool (decide (smV (aw Li)=smV Li)),iv Bi,iv (Bn-Bi)]) (st.bk 0 rfl) ((Gy _ _ _ _ _ more (k:=N) (i:=i) (by omega)).trans (ut hLie hBi hBn)) rfl)) rfl fun a hF=>S.alloc st hF zn rfl rfl fun g11 w9 a st hF=>?_
   refine oA hF 3 rfl rfl fun a hF=>S.stoI st hF 0 rfl hF.p hF.q zn rfl rfl rfl fun w10 a st hF=>ns ?_
   by_cases hc11:0<i
   ·refine E.rg 27 aM hF [47,48,49,50,51,52,53,54,55,56,57,58,59,60,61,62,63,64,65,66,67,68,69,70,71,72,73] [_,_,.ex (.bool false),.ex (.bool false),.ex (.pointer (some ⟨g11,3,none⟩)),.ex (iv (Bn-Bi)),.ex (.bool false),.ex (.bool false),.ex (.bool false),.ex (iv ((i:Nat):Int)),.ex (.bool true),.ex (.bool true),.ex (.pointer (some ⟨g11,2,none⟩)),.ex (iv Bi),.ex (.slice (some ⟨gr,0,none⟩) N cap),.ex (iv ((i:Nat):Int)),.ex (iv (((i:Nat):Int)-1)),.ex (.pointer (some ⟨gr,4*(i-1),none⟩)),.ex (.pointer (some ⟨gr,(4*(i-1)+2),none⟩)),.ex (iv Bj),.ex (.slice (some ⟨gr,0,none⟩) N cap),.ex (iv ((i:Nat):Int)),.ex (iv (((i:Nat):Int)-1)),.ex (.pointer (some ⟨gr,4*(i-1),none⟩)),.ex (.pointer (some ⟨gr,(4*(i-1)+3),none⟩)),.ex (iv (Bi-Bj)),.ex (iv (Bj+(Bi-Bj)))] (by decide+kernel) rfl rfl rfl ⟨rfd 1 (fun _=>mA (p:=3) rfl) rfl,rld rfl fun _ hb=>(bQ (v:= iv (Bn-Bi)) ((st.bk 0 rfl).below hb) rfl),(by intro a' w' hF' hb hd;have e48:=tE hd 0 rfl;exact dv0 (aq e48 ao aa (aO (aY (c:=false) (aJ (by omega))) (by simp))) rfl rfl rfl),(by intro a' w' hF' hb hd;have e49:=tE hd 0 rfl;exact dv0 (aD e49) rfl rfl rfl),(by intro a' w' hF' hb hd;have e50:=tE hd 0 rfl;exact dv1 (au rfl rfl e50 rfl) (az (hF'.at 1 rfl) (mA (p:=3) rfl)) rfl rfl),(by intro a' w' hF' hb hd;have e50:=tE hd 1 rfl;have e51:=tE hd 0 rfl;exact dv1 (au rfl rfl e50 rfl) (ar e51 (bQ (v:= iv (Bn-Bi)) ((st.bk 0 rfl).below hb) rfl)) rfl rfl),(by intro a' w' hF' hb hd;have e50:=tE hd 1 rfl;have e52:=tE hd 0 rfl;exact dv1 (au rfl rfl e50 rfl) (aq e52 ao aa (aO (bT (c:=false) (aJ (by omega))) (by simp))) rfl rfl),(by intro a' w' hF' hb hd;have e50:=tE hd 0 rfl;have e53:=tE hd 1 rfl;exact dv0 (aQ e50 e53) rfl rfl rfl),(by intro a' w' hF' hb hd;have e54:=tE hd 0 rfl;exact dv0 (aD e54) rfl rfl rfl),(by intro a' w' hF' hb hd;have e55:=tE hd 0 rfl;exact dv1 (au rfl rfl e55 rfl) (aD (hF'.at 0 rfl)) rfl rfl),(by intro a' w' hF' hb hd;have e55:=tE hd 1 rfl;have e56:=tE hd 0 rfl;exact dv1 (au rfl rfl e55 rfl) (aq e56 ao aa (aO (bT (c:=true) (aI (by omega))) (by simp))) rfl rfl),(by intro a' w' hF' hb hd;have e55:=tE hd 1 rfl;have e57:=tE hd 0 rfl;exact dv1 (au rfl rfl e55 rfl) (aD e57) rfl rfl),(by intro a' w' hF' hb hd;have e58:=tE hd 0 rfl;exact dv1 (au rfl rfl e58 rfl) (az (hF'.at 1 rfl) (pK (p:=2) rfl)) rfl rfl),(by intro a' w' hF' hb hd;have e58:=tE hd 1 rfl;have e59:=tE hd 0 rfl;exact dv1 (au rfl rfl e58 rfl) (ar e59 (bl (v:= iv Bi) ((st.bk 0 rfl).below hb) rfl)) rfl rfl),(by intro a' w' hF' hb hd;have e58:=tE hd 0 rfl;exact dv1 (au rfl rfl e58 rfl) (aD (hF'.at 9 rfl)) rfl rfl),(by intro a' w' hF' hb hd;have e58:=tE hd 0 rfl;exact dv1 (au rfl rfl e58 rfl) (aD (hF'.at 0 rfl)) rfl rfl),(by intro a' w' hF' hb hd;have e58:=tE hd 1 rfl;have e62:=tE hd 0 rfl;exact dv1 (au rfl rfl e58 rfl) (aq e62 ao aa (bB (by omega) (by omega))) rfl rfl),(by intro a' w' hF' hb hd;have e58:=tE hd 2 rfl;have e61:=tE hd 0 rfl;have e63:=tE hd 1 rfl;exact dv1 (au rfl rfl e58 rfl) (bS e61 e63 (sr (i:=(i-1)) (by omega) (by omega))) rfl rfl),(by intro a' w' hF' hb hd;have e58:=tE hd 1 rfl;have e64:=tE hd 0 rfl;exact dv1 (au rfl rfl e58 rfl) (az e64 (pK (p:=(4*(i-1)+2)) rfl)) rfl rfl),(by intro a' w' hF' hb hd;have e58:=tE hd 1 rfl;have e65:=tE hd 0 rfl;exact dv1 (au rfl rfl e58 rfl) (ar e65 (bl (v:= iv Bj) ((st.bk 1 rfl).below hb) ((Aa _ _ _ _ _ more (k:=N) (i:=(i-1)) (j:=2) (by omega) (by decide)).trans (by rw[(ut hLje hBj (hBji (by omega)))];rfl)))) rfl rfl),(by intro a' w' hF' hb hd;have e58:=tE hd 0 rfl;exact dv1 (au rfl rfl e58 rfl) (aD (hF'.at 9 rfl)) rfl rfl),(by intro a' w' hF' hb hd;have e58:=tE hd 0 rfl;exact dv1 (au rfl rfl e58 rfl) (aD (hF'.at 0 rfl)) rfl rfl),(by intro a' w' hF' hb hd;have e58:=tE hd 1 rfl;have e68:=tE hd 0 rfl;exact dv1 (au rfl rfl e58 rfl) (aq e68 ao aa (bB (by omega) (by omega))) rfl rfl),(by intro a' w' hF' hb hd;have e58:=tE hd 2 rfl;have e67:=tE hd 0 rfl;have e69:=tE hd 1 rfl;exact dv1 (au rfl rfl e58 rfl) (bS e67 e69 (sr (i:=(i-1)) (by omega) (by omega))) rfl rfl),(by intro a' w' hF' hb hd;have e58:=tE hd 1 rfl;have e70:=tE hd 0 rfl;exact dv1 (au rfl rfl e58 rfl) (az e70 (mA (p:=(4*(i-1)+3)) rfl)) rfl rfl),(by intro a' w' hF' hb hd;have e58:=tE hd 1 rfl;have e71:=tE hd 0 rfl;exact dv1 (au rfl rfl e58 rfl) (ar e71 (bQ (v:= iv (Bi-Bj)) ((st.bk 1 rfl).below hb) ((Aa _ _ _ _ _ more (k:=N) (i:=(i-1)) (j:=3) (by omega) (by decide)).trans (by rw[(ut hLje hBj (hBji (by omega)))];rfl)))) rfl rfl),(by intro a' w' hF' hb hd;have e58:=tE hd 2 rfl;have e66:=tE hd 0 rfl;have e72:=tE hd 1 rfl;exact dv1 (au rfl rfl e58 rfl) (aq e66 e72 aa (aX (by omega) (by omega))) rfl rfl),trivial⟩ ?_
    intro a w12 hF bb hall
    replace st:=st.to bb
    replace hF:=rE hall hF 8 rfl rfl
    replace hF:=rE hall hF 11 rfl rfl
    replace hF:=rE hall hF 13 rfl rfl
    replace hF:=rE hall hF 26 rfl rfl
    clear hall bb
    refine og hF (aq hF.p hF.o aa (aO (db (c:=false) (aJ (by omega))) (by simp))) 2 rfl rfl rfl fun a hF=>og hF (aK (hF.at 3 rfl) hF.o) 4 rfl rfl rfl fun a hF=>oV hF (aQ (hF.at 5 rfl) hF.o) rfl fun a hF=>E.nil<|wp_cond_false hF.o<|wp_skip<|E.blk<|E.norm<|E.seq<|oV hF (aq (hF.at 13 rfl) ao aa (aX (by omega) (by omega))) rfl fun a hF=>oS hF (aD hF.o) rfl fun a hF=>E.nil0 ?_
    refine E.norm ?_
    replace hF:Fr 105 a [(42,iv ((i+1:Nat):Int)),(77,iv (((i:Nat):Int)+1)),(76,.bool false),(75,.bool false),(74,.bool false),(73,iv (Bj+(Bi-Bj))),(60,iv Bi),(58,.bool true),(55,.bool false),(10,iv ((i:Nat):Int)),(11,.pointer (some ⟨g11,0,none⟩)),(46,.agg #[iv ((smV Li+1)%12+1),.bool (decide (smV (aw Li)=smV Li)),iv Bi,iv (Bn-Bi)]),(45,.pointer (some ⟨gr,4*i,none⟩)),(44,iv ((i:Nat):Int)),(43,.bool true),(41,iv ((N:Nat):Int)),(40,.slice (some ⟨gr,0,none⟩) N cap),(8,.slice (some ⟨gr,0,none⟩) N cap),(25,.tuple #[.slice (some ⟨gr,0,none⟩) N cap,iv 0]),(7,.pointer (some ⟨g7,0,none⟩)),(3,.pointer (some ⟨g3,0,none⟩)),(1,iv k0)]:=by rw[show((i+1:Nat):Int)=((i:Nat):Int)+1 from by omega];exact hF
    exact⟨(N-(i+1)),by omega,⟨(i+1),(by omega),Fr.pick (L':=[(42,iv ((i+1:Nat):Int)),(41,iv ((N:Nat):Int)),(40,.slice (some ⟨gr,0,none⟩) N cap),(8,.slice (some ⟨gr,0,none⟩) N cap),(25,.tuple #[.slice (some ⟨gr,0,none⟩) N cap,iv 0]),(7,.pointer (some ⟨g7,0,none⟩)),(3,.pointer (some ⟨g3,0,none⟩)),(1,iv k0)]) hF [0,15,16,17,18,19,20,21] rfl,st.pick [1,2,3] [] rfl rfl (by decide),rfl⟩⟩
   ·refine E.rg 27 aM hF [47,48,49,50,51,52,53,54,55,56,57,58,59,60,61,62,63,64,65,66,67,68,69,70,71,72,73] [_,_,.ex (.bool false),.ex (.bool false),.ex (.pointer (some ⟨g11,3,none⟩)),.ex (iv (Bn-Bi)),.ex (.bool false),.ex (.bool false),.ex (.bool false),.ex (iv ((i:Nat):Int)),.ex (.bool false),.ex (.bool false),.ex undef,.ex undef,.ex undef,.ex undef,.ex undef,.ex undef,.ex undef,.ex undef,.ex undef,.ex undef,.ex undef,.ex undef,.ex undef,.ex undef,.ex undef] (by decide+kernel) rfl rfl rfl ⟨rfd 1 (fun _=>mA (p:=3) rfl) rfl,rld rfl fun _ hb=>(bQ (v:= iv (Bn-Bi)) ((st.bk 0 rfl).below hb) rfl),(by intro a' w' hF' hb hd;have e48:=tE hd 0 rfl;exact dv0 (aq e48 ao aa (aO (aY (c:=false) (aJ (by omega))) (by simp))) rfl rfl rfl),(by intro a' w' hF' hb hd;have e49:=tE hd 0 rfl;exact dv0 (aD e49) rfl rfl rfl),(by intro a' w' hF' hb hd;have e50:=tE hd 0 rfl;exact dv1 (au rfl rfl e50 rfl) (az (hF'.at 1 rfl) (mA (p:=3) rfl)) rfl rfl),(by intro a' w' hF' hb hd;have e50:=tE hd 1 rfl;have e51:=tE hd 0 rfl;exact dv1 (au rfl rfl e50 rfl) (ar e51 (bQ (v:= iv (Bn-Bi)) ((st.bk 0 rfl).below hb) rfl)) rfl rfl),(by intro a' w' hF' hb hd;have e50:=tE hd 1 rfl;have e52:=tE hd 0 rfl;exact dv1 (au rfl rfl e50 rfl) (aq e52 ao aa (aO (bT (c:=false) (aJ (by omega))) (by simp))) rfl rfl),(by intro a' w' hF' hb hd;have e50:=tE hd 0 rfl;have e53:=tE hd 1 rfl;exact dv0 (aQ e50 e53) rfl rfl rfl),(by intro a' w' hF' hb hd;have e54:=tE hd 0 rfl;exact dv0 (aD e54) rfl rfl rfl),(by intro a' w' hF' hb hd;have e55:=tE hd 0 rfl;exact dv1 (au rfl rfl e55 rfl) (aD (hF'.at 0 rfl)) rfl rfl),(by intro a' w' hF' hb hd;have e55:=tE hd 1 rfl;have e56:=tE hd 0 rfl;exact dv1 (au rfl rfl e55 rfl) (aq e56 ao aa (aO (bT (c:=false) (aJ (by omega))) (by simp))) rfl rfl),(by intro a' w' hF' hb hd;have e55:=tE hd 1 rfl;have e57:=tE hd 0 rfl;exact dv1 (au rfl rfl e55 rfl) (aD e57) rfl rfl),(by intro a' w' hF' hb hd;have e58:=tE hd 0 rfl;exact bA (au rfl rfl e58 rfl) ⟨rfl,by decide⟩),(by intro a' w' hF' hb hd;have e58:=tE hd 1 rfl;exact bA (au rfl rfl e58 rfl) ⟨rfl,by decide⟩),(by intro a' w' hF' hb hd;have e58:=tE hd 0 rfl;exact bA (au rfl rfl e58 rfl) ⟨rfl,by decide⟩),(by intro a' w' hF' hb hd;have e58:=tE hd 0 rfl;exact bA (au rfl rfl e58 rfl) ⟨rfl,by decide⟩),(by intro a' w' hF' hb hd;have e58:=tE hd 1 rfl;exact bA (au rfl rfl e58 rfl) ⟨rfl,by decide⟩),(by intro a' w' hF' hb hd;have e58:=tE hd 2 rfl;exact bA (au rfl rfl e58 rfl) ⟨rfl,by decide⟩),(by intro a' w' hF' hb hd;have e58:=tE hd 1 rfl;exact bA (au rfl rfl e58 rfl) ⟨rfl,by decide⟩),(by intro a' w' hF' hb hd;have e58:=tE hd 1 rfl;exact bA (au rfl rfl e58 rfl) ⟨rfl,by decide⟩),(by intro a' w' hF' hb hd;have e58:=tE hd 0 rfl;exact bA (au rfl rfl e58 rfl) ⟨rfl,by decide⟩),(by intro a' w' hF' hb hd;have e58:=tE hd 0 rfl;exact bA (au rfl rfl e58 rfl) ⟨rfl,by decide⟩),(by intro a' w' hF' hb hd;have e58:=tE hd 1 rfl;exact bA (au rfl rfl e58 rfl) ⟨rfl,by decide⟩),(by intro a' w' hF' hb hd;have e58:=tE hd 2 rfl;exact bA (au rfl rfl e58 rfl) ⟨rfl,by decide⟩),(by intro a' w' hF' hb hd;have e58:=tE hd 1 rfl;exact bA (au rfl rfl e58 rfl) ⟨rfl,by decide⟩),(by intro a' w' hF' hb hd;have e58:=tE hd 1 rfl;exact bA (au rfl rfl e58 rfl) ⟨rfl,by decide⟩),(by intro a' w' hF' hb hd;have e58:=tE hd 2 rfl;exact bA (au rfl rfl e58 rfl) ⟨rfl,by decide⟩),trivial⟩ ?_
    intro a w13 hF bb hall
    replace st:=st.to bb
    replace hF:=rE hall hF 8 rfl rfl
    replace hF:=rE hall hF 11 rfl rfl
    replace hF:=rE hall hF 13 rfl rfl
    replace hF:=rE hall hF 26 rfl rfl
    clear hall bb
    refine nu hF 2 rfl rfl rfl fun a hF=>og hF (aQ (hF.at 3 rfl) ao) 4 rfl rfl rfl fun a hF=>oV hF (aQ (hF.at 5 rfl) hF.o) rfl fun a hF=>E.nil<|wp_cond_false hF.o<|wp_skip<|E.blk<|E.norm<|E.seq<|oV hF (aq (hF.at 13 rfl) ao aa (aX (by omega) (by omega))) rfl fun a hF=>oS hF (aD hF.o) rfl fun a hF=>E.nil0 ?_
    refine E.norm ?_
    replace hF:Fr 105 a [(42,iv ((i+1:Nat):Int)),(77,iv (((i:Nat):Int)+1)),(76,.bool false),(75,.bool false),(74,undef),(73,undef),(60,undef),(58,.bool false),(55,.bool false),(10,iv ((i:Nat):Int)),(11,.pointer (some ⟨g11,0,none⟩)),(46,.agg #[iv ((smV Li+1)%12+1),.bool (decide (smV (aw Li)=smV Li)),iv Bi,iv (Bn-Bi)]),(45,.pointer (some ⟨gr,4*i,none⟩)),(44,iv ((i:Nat):Int)),(43,.bool true),(41,iv ((N:Nat):Int)),(40,.slice (some ⟨gr,0,none⟩) N cap),(8,.slice (some ⟨gr,0,none⟩) N cap),(25,.tuple #[.slice (some ⟨gr,0,none⟩) N cap,iv 0]),(7,.pointer (some ⟨g7,0,none⟩)),(3,.pointer (some ⟨g3,0,none⟩)),(1,iv k0)]:=by rw[show((i+1:Nat):Int)=((i:Nat):Int)+1 from by omega];exact hF
    exact⟨(N-(i+1)),by omega,⟨(i+1),(by omega),Fr.pick (L':=[(42,iv ((i+1:Nat):Int)),(41,iv ((N:Nat):Int)),(40,.slice (some ⟨gr,0,none⟩) N cap),(8,.slice (some ⟨gr,0,none⟩) N cap),(25,.tuple #[.slice (some ⟨gr,0,none⟩) N cap,iv 0]),(7,.pointer (some ⟨g7,0,none⟩)),(3,.pointer (some ⟨g3,0,none⟩)),(1,iv k0)]) hF [0,15,16,17,18,19,20,21] rfl,st.pick [1,2,3] [] rfl rfl (by decide),rfl⟩⟩
  ·refine wp_seq<|E.seq ?_
   refine oU hF 0 1 (aY (c:=false) (aJ (by omega))) rfl rfl rfl fun a hF=>ns<|wp_cond_false hF.o<|wp_exit<|E.past<|E.past<|E.out (id:=0)<|E.norm<|wq<|oM hF 4 rfl rfl fun a hF=>oM hF 9 rfl rfl fun a hF=>oV hF (aq hF.o ao aa (ix (n:=8) (by decide) (d:=256) (by decide) (by decide))) rfl fun a hF=>oM hF 7 rfl rfl fun a hF=>oV hF (aW (aG hF.o) pS) rfl fun a hF=>oV hF (aq hF.q hF.o aa (eK (a:=k0%256) (b:=((N:Nat):Int)) (by omega) (by omega))) rfl fun a hF=>oV hF (bS (hF.at 5 rfl) hF.o (sr (i:=j1) (by omega) (by omega))) rfl fun a hF=>?_
   refine oV hF (ar hF.o (BW (vs:=[iv ((smV L1+1)%12+1),.bool (decide (smV (aw L1)=smV L1)),iv B1,iv (B2-B1)]) (st.bk 0 rfl) ((Gy _ _ _ _ _ more (k:=N) (i:=j1) (by omega)).trans (ut hL1e hB1 hB2)) rfl)) rfl fun a hF=>S.new st hF 0 rfl zn rfl rfl rfl rfl rfl fun g12 w14 a st hF=>ns ?_
   refine E.rga 11 aM hF [86,87,88,89,90,91,92,93,94,13,14] [_,_,_,_,_,_,.ex (iv (B1-1)),_,_,kb w14 [iv 0,iv 0,.bool false,iv 0,.bool false],kb w14 [iv 0,iv 0,.bool false,iv 0,.bool false]] [9,10] ⟨fun _ _ ⟨g,e,_,o⟩=>⟨g,e,o.lt⟩,⟨fun _ _ ⟨g,e,_,o⟩=>⟨g,e,o.lt⟩,trivial⟩⟩ (by decide+kernel) rfl rfl rfl ⟨rfd 0 (fun _=>pK (p:=2) rfl) rfl,rld rfl fun _ hb=>(bl (v:= iv B1) ((st.bk 0 rfl).below hb) rfl),rb st be 15 2 rfl,ck st k44 rfl fun _ s=>bD (iG B1 pa pb pc pd L1 X1 X8 _ (hT.below s.bel) (by first|assumption|constructor<;>omega) (by omega) (by omega) hL1 hX1 hX8),rfd 0 (fun _=>pK (p:=2) rfl) rfl,rld rfl fun _ hb=>(bl (v:= iv B1) ((st.bk 0 rfl).below hb) rfl),(by intro a' w' hF' hb hd;have e91:=tE hd 0 rfl;exact dv0 (aq e91 ao aa (bB (by omega) (by omega))) rfl rfl rfl),rb st be 15 2 rfl,ck st k44 rfl fun _ s=>bD (iG (B1-1) pa pb pc pd M1 X8 X7 _ (hT.below s.bel) (by first|assumption|constructor<;>omega) (by omega) (by omega) hM1 hX8 hX7),rai gO rfl,rai gO rfl,trivial⟩ ?_
   intro a w15 hF bb hall hne
   have s0:=st
   replace st:=st.to bb
   replace hF:=rE hall hF 3 rfl rfl
   replace hF:=rE hall hF 8 rfl rfl
   obtain⟨_,e13,g13,rfl,ge13,o13⟩:=sS hall 9 13 rfl rfl
   replace st:=st.push o13 (Nat.le_trans s0.bel.size ge13) (s0.ne ge13)
   clear o13
   replace hF:=hF.add e13
   obtain⟨_,e14,g14,rfl,ge14,o14⟩:=sS hall 10 14 rfl rfl
   replace st:=st.push o14 (Nat.le_trans s0.bel.size ge14) (sd (fun(e:g13=g14)=>hne 9 10 13 14 rfl rfl (by decide) rfl rfl (by rw[e13,e14,e])) (s0.ne ge14))
   clear o14
   replace hF:=hF.add e14
   clear hall bb hne s0
   refine S.stoI st hF 1 rfl hF.p (hF.at 3 rfl) gO rfl rfl rfl fun w16 a st hF=>S.stoI st hF 0 rfl hF.o hF.q gO rfl rfl rfl fun w17 a st hF=>nq ?_
   refine oV hF (pv fR (aL (hF.at 20 rfl) (hF.at 4 rfl))) rfl fun a hF=>oA hF 0 rfl rfl fun a hF=>nq<|oM hF 0 rfl rfl fun a hF=>oL hF st 4 1 gO rfl rfl rfl rfl fun a hF=>cX st hF (kR hF.p Tryz.func45 DU.1 DU.2 (aG hF.o)) (GL _ _ _ _ _ _ _ _ _ _ _ _ _ (st.bk 5 rfl) (st.bk 2 rfl) (by omega) rfl rfl) rfl fun w18 a st hF=>oM hF 0 rfl rfl fun a hF=>og hF (aD (hF.at 4 rfl)) 0 rfl rfl rfl fun a hF=>og hF (ar (hF.at 7 rfl) (bK gO (st.bk 0 rfl) rfl)) 1 rfl rfl rfl fun a hF=>?_
   refine S.callxg st hF (au rfl rfl hF.q rfl) (kR hF.p Tryz.func45 DU.1 DU.2 (aG hF.o)) (Fu _ _ _ _ _ _ _ _ _ _ _ _ _ (st.bk 5 rfl) (st.bk 2 rfl) (fun e=>absurd (yI hcM hmL1.1 (by have:=e.1;omega) (by have:=e.2.1;omega) e.2.2) hne)) rfl rfl rfl fun w19 a st hF=>?_
   refine og hF (dF hF.o (cO _ true rfl)) 3 rfl rfl rfl fun a hF=>oV hF (aK (hF.at 4 rfl) hF.o) rfl fun a hF=>oA hF 0 rfl rfl fun a hF=>nr ?_
   have bel:=st.bel
   refine rt Tryz.results9 hF 0 rfl ?_
   exact⟨rfl,bel⟩
end Go.Proofs.YtgdpkknapcgcbaaGreatDoor
