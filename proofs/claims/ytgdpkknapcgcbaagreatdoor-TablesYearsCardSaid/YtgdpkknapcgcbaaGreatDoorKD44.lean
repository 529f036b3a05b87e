import Derived.Test.YtgdpkknapcgcbaaGreatDoorKD43
namespace Go.Proofs.YtgdpkknapcgcbaaGreatDoor
open Go.RowKit
set_option maxRecDepth 100000
set_option linter.unusedVariables false
set_option maxHeartbeats 8000000
theorem tablesYears_walk (y0 r wa wb wc wd:Int) (w:World) (hT:aY w):
 CV 10 #[iv y0,iv r,.agg #[iv wa,iv wb,iv wc,iv wd]] w (.bool true):=by
 obtain⟨pa,hpa⟩:∃z:Int,gA 60 120 wa wb=z:=⟨_,rfl⟩
 obtain⟨pb,hpb⟩:∃z:Int,gB wb=z:=⟨_,rfl⟩
 obtain⟨pc,hpc⟩:∃z:Int,gA 180 360 wc wd=z:=⟨_,rfl⟩
 obtain⟨pd,hpd⟩:∃z:Int,gB wd=z:=⟨_,rfl⟩
 have hok:aZ pa pb pc pd:=by rw[<-hpa,<-hpb,<-hpc,<-hpd];exact pB wa wb wc wd
 have hp1:=hok.b0
 have hp2:=hok.b1
 have hp3:=hok.a0
 have hp4:=hok.a1
 have hp5:=hok.d0
 have hp6:=hok.d1
 have hp7:=hok.c0
 have hp8:=hok.c1
 obtain⟨y,hy⟩:∃z:Int,(if 0<=y0 then y0%7999 else -(-y0%7999))=z:=⟨_,rfl⟩
 have hyb:=pf (k:=y0) (n:=7999) (by decide)
 rw[hy] at hyb
 by_cases hR:3<r%8
 ·obtain⟨D,hD⟩:∃z:Int,yfV (fiS y 1)=z:=⟨_,rfl⟩
  obtain⟨N,hN⟩:∃z:Nat,yrN (fiS y 1)=z:=⟨_,rfl⟩
  have hNb:=CB (fiS y 1)
  rw[hN] at hNb
  have hfs:fiS y 1=12*(y+3044)+(1-2)+23470560000:=rfl
  obtain⟨Lz,hLze⟩:∃z:Int,moD D (N-1)=z:=⟨_,rfl⟩
  have hmLz:=sR hok (fiS y 1) (N-1)
  have hsLz:=zl (fiS y 1) (i:=(N-1)) (by omega)
  rw[hD,hLze] at hmLz hsLz
  obtain⟨Bz,hBz⟩:∃z:Int,beV pa pb pc pd Lz=z:=⟨_,rfl⟩
  rw[show moD D ((N-1)+1)=az Lz from by rw[<-hLze];rfl] at hmLz
  obtain⟨Be,hBe⟩:∃z:Int,beV pa pb pc pd (az Lz)=z:=⟨_,rfl⟩
  rw[hBz,hBe] at hmLz
  have hzE:=Eg (fiS y 1)
  rw[hN,hD,show N=N-1+1 by omega] at hzE
  obtain⟨me,hEe⟩:∃z:Int,yfV (fiS y 1+12)=z:=⟨_,rfl⟩
  have hEz:az Lz=me:=by rw[<-hLze,<-hEe,<-hzE];rfl
  have hsE:=dB (fiS y 1+12)
  have hqE:=vK (fiS y 1+12)
  rw[hEe] at hsE hqE
  have hnE:=kl (bE me).2.2.1
  rw[eJ hsE.1] at hnE
  have hE1:amL Be pa pb pc pd=me:=by rw[<-hBe,hEz];exact wC hok hsE.1
  have hE2:amL (Be-1) pa pb pc pd=Lz:=by rw[<-hBe];exact(we hok hmLz.1 _).2 ⟨by omega,by omega⟩
  have hsD:=dB (fiS y 1)
  have hqD:=vK (fiS y 1)
  rw[hD] at hsD hqD
  obtain⟨Ba,hBa⟩:∃z:Int,beV pa pb pc pd D=z:=⟨_,rfl⟩
  obtain⟨Bb,hBb⟩:∃z:Int,beV pa pb pc pd (az D)=z:=⟨_,rfl⟩
  obtain⟨Da,hDae⟩:∃z:Int,be D=z:=⟨_,rfl⟩
  rw[hDae] at hqD
  have hE3:amL (Ba-1) pa pb pc pd=Da:=by rw[<-hBa,<-hDae];exact Ex hok hsD.1
  have hnD:=kl (bE D).2.2.1
  rw[eJ hsD.1,hDae] at hnD
  have hwE:=iB (n:=me) (y:=y+1) (m:=smV me-fiS (y+1) 1+1) (by unfold fiS at*;omega)
  have hfE:=nD (y:=y+1) (m:=smV me-fiS (y+1) 1+1) (by omega) (by omega) (by unfold fiS at*;omega) (by unfold fiS at*;omega)
  have hbE:=kk hok hsE.1
  rw[show beV pa pb pc pd me=Be by rw[<-hEz];exact hBe] at hbE
  have hwD:=iB (n:=D) (y:=y) (m:=smV D-fiS y 1+1) (by unfold fiS at*;omega)
  have hfD:=nD (y:=y) (m:=smV D-fiS y 1+1) (by omega) (by omega) (by omega) (by omega)
  have hbD:=kk hok hsD.1
  rw[hBa] at hbD
  have hwL:=iB (n:=Lz) (y:=y) (m:=smV Lz-fiS y 1+1) (by unfold fiS at*;omega)
  have hfL:=nD (y:=y) (m:=smV Lz-fiS y 1+1) (by omega) (by omega) (by omega) (by omega)
  have hbL:=kk hok hmLz.1
  rw[hBz] at hbL
  obtain⟨X1,hX1⟩:∃z:Int,amX (Be) pa pb pc pd=z:=⟨_,rfl⟩
  obtain⟨X2,hX2⟩:∃z:Int,amX (Be-1) pa pb pc pd=z:=⟨_,rfl⟩
  obtain⟨X3,hX3⟩:∃z:Int,amX (Be-1-1) pa pb pc pd=z:=⟨_,rfl⟩
  obtain⟨X4,hX4⟩:∃z:Int,amX (Ba-1) pa pb pc pd=z:=⟨_,rfl⟩
  obtain⟨X5,hX5⟩:∃z:Int,amX (Ba-1-1) pa pb pc pd=z:=⟨_,rfl⟩
  refine gs3 (nt:=122) Tryz.func10 rfl rfl rfl fun a st hF=>wq<|bx st hF 2 rfl rfl fun g5 w1 a st hF=>?_
  refine oC hF rfl fun a hF=>ns<|wq<|cX st hF (rgc k38 iI) (jU _ (hT.below st.bel)) rfl fun w2 a st hF=>oV hF (fZ hF.o (eo _ false rfl)) rfl fun a hF=>E.nil<|wp_cond_false hF.o<|wp_skip<|E.norm<|wq<|oM hF 4 rfl rfl fun a hF=>oV hF (ao hF.o ah ab (nW (by decide) hy)) rfl fun a hF=>oL hF st 5 0 sd rfl rfl rfl rfl fun a hF=>?_
  refine cX st hF (rgc k17 (aC hF.o)) (oh _ hpa hpb hpc hpd) rfl fun w3 a st hF=>S.alloc st hF aO rfl rfl fun g7 w4 a st hF=>oE hF 3 rfl rfl fun a hF=>S.stoI st hF 0 rfl hF.p hF.q aO rfl rfl rfl fun w5 a st hF=>ns<|wq<|oM hF 10 rfl rfl fun a hF=>oV hF (ao hF.o ah ab (jv (n:=3) (by decide) (d:=8) (by decide) (by decide))) rfl fun a hF=>oT hF 0 (cS (c:=true) (aJ (by omega))) rfl rfl fun a hF=>?_
  refine E.nil<|wp_cond_true hF.o<|wq<|oM hF 3 rfl rfl fun a hF=>oL hF st 5 0 aO rfl rfl rfl rfl fun a hF=>?_
  refine E.call hF (rgc k43 (aK hF.p hF.o)) (um y pa pb pc pd _ (hT.below st.bel) (by first|assumption|constructor<;>omega) (by omega) (by omega) D N hD hN) rfl rfl rfl rfl ?_
  rintro e w6 ⟨_,cap,rfl,hia,bb⟩
  refine⟨_,rfl,?_⟩
  intro a hF
  obtain⟨gr,more,rfl,_,hge,hbk⟩:=hia.row (by omega)
  replace st:=(st.to bb).push hbk (Nat.le_trans st.bel.size hge) (st.ne hge)
  clear hia bb hbk hge
  refine oM hF 0 rfl rfl fun a hF=>oV hF (aA (v:= .slice (some ⟨gr,0,none⟩) N cap) hF.o rfl) rfl fun a hF=>oV hF (aA (v:= iv 0) hF.p rfl) rfl fun a hF=>oA hF 1 rfl rfl fun a hF=>oA hF 1 rfl rfl fun a hF=>ns<|wq<|oM hF 0 rfl rfl fun a hF=>oT hF 0 (dS (c:=false) (aH (by decide))) rfl rfl fun a hF=>oM hF 0 rfl rfl fun a hF=>og hF (aG (hF.at 4 rfl)) 0 rfl rfl rfl fun a hF=>og hF (bI (aC hF.o) gN) 1 rfl rfl rfl fun a hF=>og hF (ao hF.o ah ab (aL (bq (c:=false) (aH (by omega))) (by simp))) 2 rfl rfl rfl fun a hF=>oV hF (aP (hF.at 3 rfl) hF.o) rfl fun a hF=>?_
  refine E.nil<|wp_cond_false hF.o<|wp_skip<|E.norm<|wp_seq ?_
  refine E.rg 16 aI hF [35,36,37,38,39,40,41,42,43,44,45,46,47,48,49,10] [_,_,.ex (iv ((N:Nat):Int)),.ex (iv (((N:Nat):Int)-1)),.ex (.pointer (some ⟨gr,4*(N-1),none⟩)),.ex (.pointer (some ⟨gr,(4*(N-1)+2),none⟩)),_,_,_,.ex (iv ((N:Nat):Int)),.ex (iv (((N:Nat):Int)-1)),.ex (.pointer (some ⟨gr,4*(N-1),none⟩)),.ex (.pointer (some ⟨gr,(4*(N-1)+3),none⟩)),_,.ex (iv (Bz+(Be-Bz))),.ex (iv (Bz+(Be-Bz)))] (by decide+kernel) rfl rfl rfl ⟨rm 8 rfl,rm 8 rfl,(by intro a' w' hF' hb hd;have e36:=tE hd 0 rfl;exact dv0 (bI (aC e36) gN) rfl rfl rfl),(by intro a' w' hF' hb hd;have e37:=tE hd 0 rfl;exact dv0 (ao e37 ah ab (bM (by omega) (by omega))) rfl rfl rfl),(by intro a' w' hF' hb hd;have e35:=tE hd 0 rfl;have e38:=tE hd 1 rfl;exact dv0 (dz e35 e38 (fg (i:=(N-1)) (by omega) (by omega))) rfl rfl rfl),(by intro a' w' hF' hb hd;have e39:=tE hd 0 rfl;exact dv0 (au e39 (fq (p:=(4*(N-1)+2)) rfl)) rfl rfl rfl),rld rfl fun _ hb=>(bi (v:= iv Bz) ((st.bk 0 rfl).below hb) ((nz _ _ _ _ _ more (k:=N) (i:=(N-1)) (j:=2) (by omega) (by decide)).trans (by rw[(rO hLze hBz hBe)];rfl))),rm 8 rfl,rm 8 rfl,(by intro a' w' hF' hb hd;have e43:=tE hd 0 rfl;exact dv0 (bI (aC e43) gN) rfl rfl rfl),(by intro a' w' hF' hb hd;have e44:=tE hd 0 rfl;exact dv0 (ao e44 ah ab (bM (by omega) (by omega))) rfl rfl rfl),(by intro a' w' hF' hb hd;have e42:=tE hd 0 rfl;have e45:=tE hd 1 rfl;exact dv0 (dz e42 e45 (fg (i:=(N-1)) (by omega) (by omega))) rfl rfl rfl),(by intro a' w' hF' hb hd;have e46:=tE hd 0 rfl;exact dv0 (au e46 (eR (p:=(4*(N-1)+3)) rfl)) rfl rfl rfl),rld rfl fun _ hb=>(cr (v:= iv (Be-Bz)) ((st.bk 0 rfl).below hb) ((nz _ _ _ _ _ more (k:=N) (i:=(N-1)) (j:=3) (by omega) (by decide)).trans (by rw[(rO hLze hBz hBe)];rfl))),(by intro a' w' hF' hb hd;have e41:=tE hd 0 rfl;have e48:=tE hd 1 rfl;exact dv0 (ao e41 e48 ab (aU (by omega) (by omega))) rfl rfl rfl),(by intro a' w' hF' hb hd;have e49:=tE hd 0 rfl;exact dv0 (aQ e49) rfl rfl rfl),trivial⟩ ?_
  intro a w7 hF bb hall
  replace st:=st.to bb
  replace hF:=rE hall hF 15 rfl rfl
  clear hall bb
  replace hF:Fr 122 a [(10,iv Be),(34,.bool false),(33,.bool false),(32,iv ((N:Nat):Int)),(31,.slice (some ⟨gr,0,none⟩) N cap),(30,.bool false),(29,.bool false),(28,iv 0),(9,iv 0),(8,.slice (some ⟨gr,0,none⟩) N cap),(27,iv 0),(26,.slice (some ⟨gr,0,none⟩) N cap),(22,.tuple #[.slice (some ⟨gr,0,none⟩) N cap,iv 0]),(25,.tuple #[.slice (some ⟨gr,0,none⟩) N cap,iv 0]),(24,.agg #[iv pa,iv pb,iv pc,iv pd]),(23,iv y),(21,.bool true),(20,iv (r%8)),(19,iv r),(0,iv y),(7,.pointer (some ⟨g7,0,none⟩)),(18,.agg #[iv pa,iv pb,iv pc,iv pd]),(17,.agg #[iv wa,iv wb,iv wc,iv wd]),(16,iv y),(15,iv y0),(14,.bool false),(13,.bool true),(6,.bool false),(5,.pointer (some ⟨g5,0,none⟩)),(1,iv r),(2,.agg #[iv wa,iv wb,iv wc,iv wd])]:=by rw[show Be=Bz+(Be-Bz) by omega];exact hF
  refine ns ?_
  refine E.rg 27 aI hF [50,51,52,53,54,55,56,57,58,59,60,61,62,63,64,65,66,67,68,69,70,71,72,73,74,75,76] [_,_,_,.ex (iv ((smV me+1)/12-1955883044)),_,.ex (iv (y+1)),.ex (.bool true),.ex (.bool true),.ex (iv Be),.ex (iv (Be-1)),.ex (.agg #[iv pa,iv pb,iv pc,iv pd]),.ex (.agg #[iv ((smV Lz+1)/12-1955883044),iv ((smV Lz+1)%12+1),.bool (decide (smV (az Lz)=smV Lz)),iv (X2%30+1),.bool (decide (X3=X2))]),.ex (iv ((smV Lz+1)/12-1955883044)),.ex (iv y),.ex (.bool true),.ex (.bool true),.ex (.bool true),.ex (.slice (some ⟨gr,0,none⟩) N cap),.ex (.pointer (some ⟨gr,4*0,none⟩)),.ex (.pointer (some ⟨gr,(4*0+2),none⟩)),.ex (iv Ba),.ex (iv (Ba-1)),.ex (.agg #[iv pa,iv pb,iv pc,iv pd]),.ex (.agg #[iv ((smV Da+1)/12-1955883044),iv ((smV Da+1)%12+1),.bool (decide (smV (az Da)=smV Da)),iv (X4%30+1),.bool (decide (X5=X4))]),.ex (iv ((smV Da+1)/12-1955883044)),.ex (iv y),.ex (iv (y-1))] (by decide+kernel) rfl rfl rfl ⟨rm 0 rfl,rb st aO 20 1 rfl,ck st k44 rfl fun _ s=>bJ (jP Be pa pb pc pd me X1 X2 _ (hT.below s.bel) (by first|assumption|constructor<;>omega) (by omega) (by omega) hE1 hX1 hX2),(by intro a' w' hF' hb hd;have e52:=tE hd 0 rfl;exact dv0 (nM e52 (nl _ _ _ _ _ _)) rfl rfl rfl),rm 19 rfl,(by intro a' w' hF' hb hd;have e54:=tE hd 0 rfl;exact dv0 (ao e54 ah ab (aU (by omega) (by omega))) rfl rfl rfl),(by intro a' w' hF' hb hd;have e53:=tE hd 0 rfl;have e55:=tE hd 1 rfl;exact dv0 (ao e53 e55 ab (aL (bq (c:=true) (aJ (by omega))) (by simp))) rfl rfl rfl),(by intro a' w' hF' hb hd;have e56:=tE hd 0 rfl;exact dv0 (aG e56) rfl rfl rfl),(by intro a' w' hF' hb hd;have e57:=tE hd 0 rfl;exact dv1 (aq rfl rfl e57 rfl) (aG (hF'.at 0 rfl)) rfl rfl),(by intro a' w' hF' hb hd;have e57:=tE hd 1 rfl;have e58:=tE hd 0 rfl;exact dv1 (aq rfl rfl e57 rfl) (ao e58 ah ab (bM (by omega) (by omega))) rfl rfl),(by intro a' w' hF' hb hd;have e57:=tE hd 0 rfl;exact dv1 (aq rfl rfl e57 rfl) (ar (hF'.at 20 rfl) (bh aO ((st.bk 1 rfl).below hb) rfl)) rfl rfl),(by intro a' w' hF' hb hd;have e57:=tE hd 2 rfl;have e59:=tE hd 0 rfl;have e60:=tE hd 1 rfl;exact BR (aq rfl rfl e57 rfl) (rk F4 (aK e59 e60)) (jP (Be-1) pa pb pc pd Lz X2 X3 _ (hT.below (bv st.bel hb)) (by first|assumption|constructor<;>omega) (by omega) (by omega) hE2 hX2 hX3) (fun _=>rfl) rfl),(by intro a' w' hF' hb hd;have e57:=tE hd 1 rfl;have e61:=tE hd 0 rfl;exact dv1 (aq rfl rfl e57 rfl) (nM e61 (nl _ _ _ _ _ _)) rfl rfl),(by intro a' w' hF' hb hd;have e57:=tE hd 0 rfl;exact dv1 (aq rfl rfl e57 rfl) (aG (hF'.at 19 rfl)) rfl rfl),(by intro a' w' hF' hb hd;have e57:=tE hd 2 rfl;have e62:=tE hd 0 rfl;have e63:=tE hd 1 rfl;exact dv1 (aq rfl rfl e57 rfl) (ao e62 e63 ab (aL (bq (c:=true) (aJ (by omega))) (by simp))) rfl rfl),(by intro a' w' hF' hb hd;have e57:=tE hd 0 rfl;have e64:=tE hd 1 rfl;exact dv0 (aV e57 e64) rfl rfl rfl),(by intro a' w' hF' hb hd;have e65:=tE hd 0 rfl;exact dv0 (aG e65) rfl rfl rfl),(by intro a' w' hF' hb hd;have e66:=tE hd 0 rfl;exact dv1 (aq rfl rfl e66 rfl) (aG (hF'.at 9 rfl)) rfl rfl),(by intro a' w' hF' hb hd;have e66:=tE hd 1 rfl;have e67:=tE hd 0 rfl;exact dv1 (aq rfl rfl e66 rfl) (dz e67 ah (fg (i:=0) (by omega) (by omega))) rfl rfl),(by intro a' w' hF' hb hd;have e66:=tE hd 1 rfl;have e68:=tE hd 0 rfl;exact dv1 (aq rfl rfl e66 rfl) (au e68 (fq (p:=(4*0+2)) rfl)) rfl rfl),(by intro a' w' hF' hb hd;have e66:=tE hd 1 rfl;have e69:=tE hd 0 rfl;exact dv1 (aq rfl rfl e66 rfl) (ar e69 (bi (v:= iv Ba) ((st.bk 0 rfl).below hb) ((nz _ _ _ _ _ more (k:=N) (i:=0) (j:=2) (by omega) (by decide)).trans (by rw[(rO (show moD D 0=D from rfl) hBa hBb)];rfl)))) rfl rfl),(by intro a' w' hF' hb hd;have e66:=tE hd 1 rfl;have e70:=tE hd 0 rfl;exact dv1 (aq rfl rfl e66 rfl) (ao e70 ah ab (bM (by omega) (by omega))) rfl rfl),(by intro a' w' hF' hb hd;have e66:=tE hd 0 rfl;exact dv1 (aq rfl rfl e66 rfl) (ar (hF'.at 20 rfl) (bh aO ((st.bk 1 rfl).below hb) rfl)) rfl rfl),(by intro a' w' hF' hb hd;have e66:=tE hd 2 rfl;have e71:=tE hd 0 rfl;have e72:=tE hd 1 rfl;exact BR (aq rfl rfl e66 rfl) (rk F4 (aK e71 e72)) (jP (Ba-1) pa pb pc pd Da X4 X5 _ (hT.below (bv st.bel hb)) (by first|assumption|constructor<;>omega) (by omega) (by omega) hE3 hX4 hX5) (fun _=>rfl) rfl),(by intro a' w' hF' hb hd;have e66:=tE hd 1 rfl;have e73:=tE hd 0 rfl;exact dv1 (aq rfl rfl e66 rfl) (nM e73 (nl _ _ _ _ _ _)) rfl rfl),(by intro a' w' hF' hb hd;have e66:=tE hd 0 rfl;exact dv1 (aq rfl rfl e66 rfl) (aG (hF'.at 19 rfl)) rfl rfl),(by intro a' w' hF' hb hd;have e66:=tE hd 1 rfl;have e75:=tE hd 0 rfl;exact dv1 (aq rfl rfl e66 rfl) (ao e75 ah ab (bM (by omega) (by omega))) rfl rfl),trivial⟩ ?_
  intro a w8 hF bb hall
  replace st:=st.to bb
  replace hF:=rE hall hF 16 rfl rfl
  replace hF:=rE hall hF 24 rfl rfl
  replace hF:=rE hall hF 26 rfl rfl
  clear hall bb
  refine og hF (ao hF.p hF.o ab (aL (bq (c:=true) (aJ (by omega))) (by simp))) 2 rfl rfl rfl fun a hF=>oV hF (aV (hF.at 3 rfl) hF.o) rfl fun a hF=>oE hF 0 rfl rfl fun a hF=>nr ?_
  have bel:=st.bel
  refine rt Tryz.results10 hF 0 rfl ?_
  exact⟨rfl,bel⟩
 ·obtain⟨ys,hys⟩:∃z:Int,12*(1955880000+y+3179)=z:=⟨_,rfl⟩
  obtain⟨N,hN⟩:∃z:Nat,z=12:=⟨_,rfl⟩
  obtain⟨Bz,hBz⟩:∃z:Int,fmV (r%8) pa pb pc pd (ys+11)=z:=⟨_,rfl⟩
  obtain⟨Be,hBe⟩:∃z:Int,fmV (r%8) pa pb pc pd (ys+11+1)=z:=⟨_,rfl⟩
  obtain⟨Ba,hBa⟩:∃z:Int,fmV (r%8) pa pb pc pd (ys+0)=z:=⟨_,rfl⟩
  obtain⟨Bb,hBb⟩:∃z:Int,fmV (r%8) pa pb pc pd (ys+0+1)=z:=⟨_,rfl⟩
  have hq1:foD (dv (r%8) pa pb pc pd) (y+1) 1=Be:=by rw[oY _ _ _ _ _ (by decide) (by decide),show 12*(1955880000+(y+1)+3179)+(1-1)=ys+11+1 by omega];exact hBe
  have hq0:foD (dv (r%8) pa pb pc pd) y 1=Ba:=by rw[oY _ _ _ _ _ (by decide) (by decide),show 12*(1955880000+y+3179)+(1-1)=ys+0 by omega];exact hBa
  have hse:=gL (r%8) hok (y:=y) (k:=11+1) (by omega) (by omega) (by decide) (by decide)
  rw[hys,show ys+(11+1)=ys+11+1 by omega,hBe] at hse
  have hsz:=gL (r%8) hok (y:=y) (k:=11) (by omega) (by omega) (by decide) (by decide)
  rw[hys,hBz] at hsz
  have hsa:=gL (r%8) hok (y:=y) (k:=0) (by omega) (by omega) (by decide) (by decide)
  rw[hys,hBa] at hsa
  refine gs3 (nt:=122) Tryz.func10 rfl rfl rfl fun a st hF=>wq<|bx st hF 2 rfl rfl fun g5 w1 a st hF=>?_
  refine oC hF rfl fun a hF=>ns<|wq<|cX st hF (rgc k38 iI) (jU _ (hT.below st.bel)) rfl fun w2 a st hF=>oV hF (fZ hF.o (eo _ false rfl)) rfl fun a hF=>E.nil<|wp_cond_false hF.o<|wp_skip<|E.norm<|wq<|oM hF 4 rfl rfl fun a hF=>oV hF (ao hF.o ah ab (nW (by decide) hy)) rfl fun a hF=>oL hF st 5 0 sd rfl rfl rfl rfl fun a hF=>?_
  refine cX st hF (rgc k17 (aC hF.o)) (oh _ hpa hpb hpc hpd) rfl fun w3 a st hF=>S.alloc st hF aO rfl rfl fun g7 w4 a st hF=>oE hF 3 rfl rfl fun a hF=>S.stoI st hF 0 rfl hF.p hF.q aO rfl rfl rfl fun w5 a st hF=>ns<|wq<|oM hF 10 rfl rfl fun a hF=>oV hF (ao hF.o ah ab (jv (n:=3) (by decide) (d:=8) (by decide) (by decide))) rfl fun a hF=>oT hF 0 (cS (c:=false) (aH (by omega))) rfl rfl fun a hF=>?_
  refine E.nil<|wp_cond_false hF.o<|wp_skip<|E.norm<|wq<|oM hF 13 rfl rfl fun a hF=>oV hF (ao hF.o ah ab (jv (n:=3) (by decide) (d:=8) (by decide) (by decide))) rfl fun a hF=>oM hF 5 rfl rfl fun a hF=>oL hF st 7 0 aO rfl rfl rfl rfl fun a hF=>?_
  refine E.call hF (rgc k46 (gR hF.q hF.p hF.o)) (m9 (r%8) y pa pb pc pd _ (hT.below st.bel) (by first|assumption|constructor<;>omega) (by omega) (by omega) (by omega) (by omega) ys N hys hN) rfl rfl rfl rfl ?_
  rintro e w6 ⟨_,cap,rfl,hia,bb⟩
  refine⟨_,rfl,?_⟩
  intro a hF
  obtain⟨gr,more,rfl,_,hge,hbk⟩:=hia.row (by omega)
  replace st:=(st.to bb).push hbk (Nat.le_trans st.bel.size hge) (st.ne hge)
  clear hia bb hbk hge
  refine oM hF 0 rfl rfl fun a hF=>oV hF (aA (v:= .slice (some ⟨gr,0,none⟩) N cap) hF.o rfl) rfl fun a hF=>oV hF (aA (v:= iv 0) hF.p rfl) rfl fun a hF=>oA hF 1 rfl rfl fun a hF=>oA hF 1 rfl rfl fun a hF=>ns<|wq<|oM hF 0 rfl rfl fun a hF=>oT hF 0 (dS (c:=false) (aH (by decide))) rfl rfl fun a hF=>oM hF 0 rfl rfl fun a hF=>og hF (aG (hF.at 4 rfl)) 0 rfl rfl rfl fun a hF=>og hF (bI (aC hF.o) gN) 1 rfl rfl rfl fun a hF=>og hF (ao hF.o ah ab (aL (dS (c:=false) (aH (by omega))) (by simp))) 2 rfl rfl rfl fun a hF=>oV hF (aP (hF.at 3 rfl) hF.o) rfl fun a hF=>?_
  refine E.nil<|wp_cond_false hF.o<|wp_skip<|E.norm<|wp_seq ?_
  refine E.rg 26 aI hF [94,95,96,97,98,99,100,101,102,103,104,105,106,107,108,109,110,111,112,113,114,115,116,117,118,119] [_,.ex (.pointer (some ⟨gr,4*11,none⟩)),.ex (.pointer (some ⟨gr,(4*11+2),none⟩)),_,_,.ex (.pointer (some ⟨gr,4*11,none⟩)),.ex (.pointer (some ⟨gr,(4*11+3),none⟩)),_,.ex (iv (Bz+(Be-Bz))),_,.ex (iv (r%8)),_,.ex (iv (y+1)),_,_,.ex (.bool true),.ex (.bool true),.ex (.slice (some ⟨gr,0,none⟩) N cap),.ex (.pointer (some ⟨gr,4*0,none⟩)),.ex (.pointer (some ⟨gr,(4*0+2),none⟩)),.ex (iv Ba),.ex (iv r),.ex (iv (r%8)),.ex (iv y),.ex (.agg #[iv pa,iv pb,iv pc,iv pd]),.ex (iv (foD (dv (r%8) pa pb pc pd) y 1))] (by decide+kernel) rfl rfl rfl ⟨rm 8 rfl,(by intro a' w' hF' hb hd;have e94:=tE hd 0 rfl;exact dv0 (dz e94 ah (fg (i:=11) (by omega) (by omega))) rfl rfl rfl),(by intro a' w' hF' hb hd;have e95:=tE hd 0 rfl;exact dv0 (au e95 (fq (p:=(4*11+2)) rfl)) rfl rfl rfl),rld rfl fun _ hb=>(bi (v:= iv Bz) ((st.bk 0 rfl).below hb) ((jb _ _ _ _ _ _ more (k:=N) (i:=11) (j:=2) (by omega) (by decide)).trans (by rw[(ix (z:=11) rfl hBz hBe)];rfl))),rm 8 rfl,(by intro a' w' hF' hb hd;have e98:=tE hd 0 rfl;exact dv0 (dz e98 ah (fg (i:=11) (by omega) (by omega))) rfl rfl rfl),(by intro a' w' hF' hb hd;have e99:=tE hd 0 rfl;exact dv0 (au e99 (eR (p:=(4*11+3)) rfl)) rfl rfl rfl),rld rfl fun _ hb=>(cr (v:= iv (Be-Bz)) ((st.bk 0 rfl).below hb) ((jb _ _ _ _ _ _ more (k:=N) (i:=11) (j:=3) (by omega) (by decide)).trans (by rw[(ix (z:=11) rfl hBz hBe)];rfl))),(by intro a' w' hF' hb hd;have e97:=tE hd 0 rfl;have e101:=tE hd 1 rfl;exact dv0 (ao e97 e101 ab (aU (by omega) (by omega))) rfl rfl rfl),rm 30 rfl,(by intro a' w' hF' hb hd;have e103:=tE hd 0 rfl;exact dv0 (ao e103 ah ab (jv (n:=3) (by decide) (d:=8) (by decide) (by decide))) rfl rfl rfl),rm 20 rfl,(by intro a' w' hF' hb hd;have e105:=tE hd 0 rfl;exact dv0 (ao e105 ah ab (aU (by omega) (by omega))) rfl rfl rfl),rb st aO 21 1 rfl,ck st k47 rfl fun _ s=>bJ (ii (r%8) (y+1) 1 pa pb pc pd _ (hT.below s.bel) (by first|assumption|constructor<;>omega) (by omega) (by omega) (by omega) (by omega) (by omega) (by omega)),(by intro a' w' hF' hb hd;have e102:=tE hd 0 rfl;have e108:=tE hd 1 rfl;exact dv0 (ao e102 e108 ab (aL (bq (c:=true) (aJ (by omega))) (by simp))) rfl rfl rfl),(by intro a' w' hF' hb hd;have e109:=tE hd 0 rfl;exact dv0 (aG e109) rfl rfl rfl),(by intro a' w' hF' hb hd;have e110:=tE hd 0 rfl;exact dv1 (aq rfl rfl e110 rfl) (aG (hF'.at 8 rfl)) rfl rfl),(by intro a' w' hF' hb hd;have e110:=tE hd 1 rfl;have e111:=tE hd 0 rfl;exact dv1 (aq rfl rfl e110 rfl) (dz e111 ah (fg (i:=0) (by omega) (by omega))) rfl rfl),(by intro a' w' hF' hb hd;have e110:=tE hd 1 rfl;have e112:=tE hd 0 rfl;exact dv1 (aq rfl rfl e110 rfl) (au e112 (fq (p:=(4*0+2)) rfl)) rfl rfl),(by intro a' w' hF' hb hd;have e110:=tE hd 1 rfl;have e113:=tE hd 0 rfl;exact dv1 (aq rfl rfl e110 rfl) (ar e113 (bi (v:= iv Ba) ((st.bk 0 rfl).below hb) ((jb _ _ _ _ _ _ more (k:=N) (i:=0) (j:=2) (by omega) (by decide)).trans (by rw[(ix (z:=0) rfl hBa hBb)];rfl)))) rfl rfl),(by intro a' w' hF' hb hd;have e110:=tE hd 0 rfl;exact dv1 (aq rfl rfl e110 rfl) (aG (hF'.at 30 rfl)) rfl rfl),(by intro a' w' hF' hb hd;have e110:=tE hd 1 rfl;have e115:=tE hd 0 rfl;exact dv1 (aq rfl rfl e110 rfl) (ao e115 ah ab (jv (n:=3) (by decide) (d:=8) (by decide) (by decide))) rfl rfl),(by intro a' w' hF' hb hd;have e110:=tE hd 0 rfl;exact dv1 (aq rfl rfl e110 rfl) (aG (hF'.at 20 rfl)) rfl rfl),(by intro a' w' hF' hb hd;have e110:=tE hd 0 rfl;exact dv1 (aq rfl rfl e110 rfl) (ar (hF'.at 21 rfl) (bh aO ((st.bk 1 rfl).below hb) rfl)) rfl rfl),(by intro a' w' hF' hb hd;have e110:=tE hd 3 rfl;have e116:=tE hd 0 rfl;have e117:=tE hd 1 rfl;have e118:=tE hd 2 rfl;exact BR (aq rfl rfl e110 rfl) (rk Iu (pW e116 e117 ah e118)) (ii (r%8) y 1 pa pb pc pd _ (hT.below (bv st.bel hb)) (by first|assumption|constructor<;>omega) (by omega) (by omega) (by omega) (by omega) (by omega) (by omega)) (fun _=>rfl) rfl),trivial⟩ ?_
  intro a w7 hF bb hall
  replace st:=st.to bb
  replace hF:=rE hall hF 16 rfl rfl
  replace hF:=rE hall hF 20 rfl rfl
  replace hF:=rE hall hF 25 rfl rfl
  clear hall bb
  refine og hF (ao hF.p hF.o ab (aL (bq (c:=true) (aJ (by omega))) (by simp))) 2 rfl rfl rfl fun a hF=>oV hF (aV (hF.at 3 rfl) hF.o) rfl fun a hF=>oE hF 0 rfl rfl fun a hF=>nr ?_
  have bel:=st.bel
  refine rt Tryz.results10 hF 0 rfl ?_
  exact⟨rfl,bel⟩
end Go.Proofs.YtgdpkknapcgcbaaGreatDoor
