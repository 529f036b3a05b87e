import Derived.Test.YtgdpkknapcgcbaaGreatDoorKC38
namespace Go.Proofs.YtgdpkknapcgcbaaGreatDoor
open Go.RowKit
set_option maxRecDepth 100000
set_option linter.unusedVariables false
set_option maxHeartbeats 8000000
theorem fG {w:World} {g n c i:Nat} {z:Int} (hz:z=((i:Nat):Int)) (hi:i<n):(Instr.indexAt 93 (.slice (some ⟨g,0,none⟩) n c) (iv z)).run Tryz.prog w= .ok (.pointer (some ⟨g,3*i,none⟩)) w:=by
 subst hz
 simp[Instr.indexAt,asIntOf,run_underlying Tryz.underlying93,Sem.run_bind,Addr.add_mid,hi,Nat.mul_comm]
theorem ib {w:World} {ty:TypeId} {a:Option Addr} {n c:Nat}:(builtin .len #[93] ty #[false] #[.slice a n c]).run Tryz.prog w= .ok (.value (iv ((n:Nat):Int))) w:=by
 simp[Builtin.len_,go_sem,run_underlying Tryz.underlying93]
theorem sr {w:World} {g n c i:Nat} {z:Int} (hz:z=((i:Nat):Int)) (hi:i<n):(Instr.indexAt 77 (.slice (some ⟨g,0,none⟩) n c) (iv z)).run Tryz.prog w= .ok (.pointer (some ⟨g,4*i,none⟩)) w:=by
 subst hz
 simp[Instr.indexAt,asIntOf,run_underlying Tryz.underlying77,Sem.run_bind,Addr.add_mid,hi,Nat.mul_comm]
theorem pS {w:World} {ty:TypeId} {a:Option Addr} {n c:Nat}:(builtin .len #[77] ty #[false] #[.slice a n c]).run Tryz.prog w= .ok (.value (iv ((n:Nat):Int))) w:=by
 simp[Builtin.len_,go_sem,run_underlying Tryz.underlying77]
theorem iq {P:Program} {w:World} {t:TypeId} {y0 n y:Int} (hn:0<n) (h:(if 0<=y0 then y0%n else -(-y0%n))=y):(binOp .rem t (iv y0) (iv n)).run P w= .ok (iv y) w:=by
 subst h
 exact iU hn
theorem Ag (r y xa xb xc xd:Int) (w:World) (hr:r<0\/3<r):
 CP 46 #[iv r,iv y,.agg #[iv xa,iv xb,iv xc,iv xd]] w (fun e w'=>∃ad cap,e= .returned (.tuple #[.slice ad 0 cap,iv (6)])/\Below w.heap.size w w'):=by
 refine gs3 (nt:=61) Tryz.func46 rfl rfl rfl fun a st hF=>wq<|bx st hF 2 rfl rfl fun g5 w1 a st hF=>?_
 refine oC hF rfl fun a hF=>oC hF rfl fun a hF=>ns<|wq<|oM hF 3 rfl rfl fun a hF=>?_
 by_cases hc2:r<0
 ·refine oT hF 0 (aY (c:=true) (aI (by omega))) rfl rfl fun a hF=>oM hF 0 rfl rfl fun a hF=>nu hF 0 rfl rfl rfl fun a hF=>nu hF 1 rfl rfl rfl fun a hF=>oV hF (aK hF.q ao) rfl fun a hF=>E.nil<|wp_cond_true hF.o<|wq ?_
  refine oS hF (aZ ao) rfl fun a hF=>oS hF (aZ ao) rfl fun a hF=>nr<|E.pastr ?_
  have bel:=st.bel
  refine bodyPost_ret (eJ Tryz.results46 hF.p hF.o) hF.dfr ?_
  exact⟨_,_,rfl,bel⟩
 ·refine oT hF 0 (aY (c:=false) (aJ (by omega))) rfl rfl fun a hF=>oM hF 0 rfl rfl fun a hF=>og hF (aD (hF.at 6 rfl)) 0 rfl rfl rfl fun a hF=>og hF (aq hF.o ao aa (aO (dI (c:=true) (aI (by omega))) (by simp))) 1 rfl rfl rfl fun a hF=>oV hF (aQ hF.q hF.o) rfl fun a hF=>E.nil<|wp_cond_true hF.o<|wq ?_
  refine oS hF (aZ ao) rfl fun a hF=>oS hF (aZ ao) rfl fun a hF=>nr<|E.pastr ?_
  have bel:=st.bel
  refine bodyPost_ret (eJ Tryz.results46 hF.p hF.o) hF.dfr ?_
  exact⟨_,_,rfl,bel⟩
theorem EB (L M z3:Int) (w:World):CV 99 #[.agg #[iv L,iv M,iv (smV L%12),iv z3]] w (iv ((smV L+1)%12+1)):=by
 have h:=je L M (smV L%12) z3 w (by omega) (by omega)
 rw[show(smV L%12+1)%12+1=(smV L+1)%12+1 by omega] at h
 exact h
theorem pZ (L:Int) (w:World) (hc:aN L=true):CV 100 #[.agg #[iv L,iv (aw L),iv (smV L%12),iv (smV (aw L)%12)]] w (.bool (decide (smV (aw L)=smV L))):=by
 have h:=uS L (aw L) (smV L%12) (smV (aw L)%12) w
 have n:=gS hc
 rw[show decide (smV L%12=smV (aw L)%12)=decide (smV (aw L)=smV L) from decide_eq_decide.2 (by omega)] at h
 exact h
theorem Az (y xa xb xc xd:Int) (w:World) (hE:ff y 1 1 xa xb xc xd≠0):
 CP 43 #[iv y,.agg #[iv xa,iv xb,iv xc,iv xd]] w (fun e w'=>∃ad cap,e= .returned (.tuple #[.slice ad 0 cap,iv (ff y 1 1 xa xb xc xd)])/\Below w.heap.size w w'):=by
 refine gs2 (nt:=46) Tryz.func43 rfl rfl rfl fun a st hF=>wq<|bx st hF 1 rfl rfl fun g3 w1 a st hF=>?_
 refine oC hF rfl fun a hF=>oC hF rfl fun a hF=>ns<|wq<|oM hF 3 rfl rfl fun a hF=>oL hF st 3 0 be rfl rfl rfl rfl fun a hF=>cX st hF (rgc k96 (aL hF.p hF.o)) (xg y xa xb xc xd _) rfl fun w2 a st hF=>?_
 refine oA hF 0 rfl rfl fun a hF=>nq<|oM hF 0 rfl rfl fun a hF=>oT hF 0 (db (c:=true) (aI hE)) rfl rfl fun a hF=>E.nil<|wp_cond_true hF.o<|wq ?_
 refine oM hF 2 rfl rfl fun a hF=>oS hF (aZ ao) rfl fun a hF=>oE hF 1 rfl rfl fun a hF=>nr<|E.pastr ?_
 have bel:=st.bel
 refine bodyPost_ret (eJ Tryz.results43 hF.p hF.o) hF.dfr ?_
 exact⟨_,_,rfl,bel⟩
theorem A7 (y xa xb xc xd:Int) (w:World) (hT:bE w) (hok:bN xa xb xc xd) (hy0: -9000<=y) (hy1:y<=9000) (D:Int) (N:Nat) (hD:yfV (fiS y 1)=D) (hN:yrN (fiS y 1)=N):
 CP 43 #[iv y,.agg #[iv xa,iv xb,iv xc,iv xd]] w (fun e w'=>∃ad cap,e= .returned (.tuple #[.slice ad N cap,iv 0])/\dW w' 4 81 w.heap.size (.slice ad N cap) N (hdF xa xb xc xd D N)/\Below w.heap.size w w'):=by
 have hma:ff y 1 1 xa xb xc xd=0:=ux (rK hok) (by omega) (by omega)
 have hNb:=KC (fiS y 1)
 rw[hN] at hNb
 refine gs2 (nt:=46) Tryz.func43 rfl rfl rfl fun a st hF=>wq<|bx st hF 1 rfl rfl fun g3 w1 a st hF=>?_
 refine oC hF rfl fun a hF=>oC hF rfl fun a hF=>ns<|wq<|oM hF 3 rfl rfl fun a hF=>oL hF st 3 0 be rfl rfl rfl rfl fun a hF=>cX st hF (rgc k96 (aL hF.p hF.o)) (xg y xa xb xc xd _) rfl fun w2 a st hF=>?_
 refine oA hF 0 rfl rfl fun a hF=>nq<|oM hF 0 rfl rfl fun a hF=>oT hF 0 (db (c:=false) (aJ (fun e=>e hma))) rfl rfl fun a hF=>E.nil<|wp_cond_false hF.o<|wp_skip<|E.norm<|wq ?_
 obtain⟨glu3,w4,ge,hr,bb,hpa⟩:=Pr w2 w.heap.size st.bel.size
 refine oV hF (bO (by simp) hr) rfl fun a hF=>?_
 replace st:=(st.to bb).grow0 hpa cU.gc cU.gl (st.gnew ge)
 clear hr bb hpa ge
 refine oA hF 0 rfl rfl fun a hF=>ns<|wq<|oM hF 11 rfl rfl fun a hF=>?_
 refine E.call hF (rgc k97 (aG hF.o)) (IK y N _ (hT.below st.bel) hy0 hy1 hN) rfl rfl rfl rfl ?_
 rintro e w5 ⟨_,cap,rfl,hia,bb⟩
 refine⟨_,rfl,?_⟩
 intro a hF
 obtain⟨gr,more,rfl,_,hge,hbk⟩:=hia.row (by omega)
 replace st:=(st.to bb).push hbk (Nat.le_trans st.bel.size hge) (st.ne hge) (st.away hge)
 clear hia bb hbk hge
 refine oV hF (aW (aG hF.o) iY) rfl fun a hF=>oV hF (aD ao) rfl fun a hF=>E.nil<|wp_block ?_
 refine E.loop (fun mq a wv=>∃(i:Nat) (la:Option Addr) (lc:Nat),i<=N/\Fr 46 a [(22,iv ((i:Nat):Int)),(21,iv ((N:Nat):Int)),(20,.slice (some ⟨gr,0,none⟩) N cap),(7,.slice la i lc),(5,iv 0),(4,.slice none 0 0),(3,.pointer (some ⟨g3,0,none⟩))]/\Sg w wv [(gr,iJ (inL y)++more),(g3,[iv xa,iv xb,iv xc,iv xd])] [] (.slice la i lc) (fun wx=>cU wx 4 81 w.heap.size (.slice la i lc) i (hdF xa xb xc xd D i))/\mq=N-i) ((N-0)) ?_ ?_
 ·exact⟨0,(some ⟨glu3,0,none⟩),0,(Nat.zero_le _),Fr.pick (L':=[(22,iv ((0:Nat):Int)),(21,iv ((N:Nat):Int)),(20,.slice (some ⟨gr,0,none⟩) N cap),(7,.slice (some ⟨glu3,0,none⟩) 0 0),(5,iv 0),(4,.slice none 0 0),(3,.pointer (some ⟨g3,0,none⟩))]) hF [0,1,2,4,12,13,14] rfl,((st.pick [0,1] [] rfl rfl (by decide)).cast rfl),rfl⟩
 ·rintro mq a w6 ⟨i,la,lc,hi,hF,st,hm⟩
  by_cases hlt:i<N
  ·have hmi:=tm hok (fiS y 1) i
   rw[hD] at hmi
   have hsi:=AB (fiS y 1) (i:=i) (by omega)
   rw[hD] at hsi
   have hwi:=fw (n:=moD D i) (y:=y) (m:=smV (moD D i)-fiS y 1+1) (by unfold fiS at*;omega)
   have hfi:=ju (y:=y) (m:=smV (moD D i)-fiS y 1+1) hy0 hy1 (by omega) (by omega)
   obtain⟨Bi,hBi⟩:∃z:Int,beV xa xb xc xd (moD D i)=z:=⟨_,rfl⟩
   obtain⟨Bn,hBn⟩:∃z:Int,beV xa xb xc xd (moD D (i+1))=z:=⟨_,rfl⟩
   have hni:=fj hok hmi.1
   rw[hBi] at hni
   rw[hBi,hBn] at hmi
   refine wq ?_
   refine oU hF 0 1 (aY (c:=true) (aI (by omega))) rfl rfl rfl fun a hF=>ns<|wp_cond_true hF.o<|wp_skip<|E.norm<|wp_seq<|wp_block<|wq<|oV hF (bS (hF.at 3 rfl) hF.p (oe (i:=i) (by omega) (by omega))) rfl fun a hF=>oV hF (ar hF.o (jn (vs:=[iv (moD D i),iv (moD D (i+1)),iv (smV (moD D i)%12),iv (smV (moD D (i+1))%12)]) (st.bk 0 rfl) (OK hD hN (by omega) more) rfl)) rfl fun a hF=>?_
   refine SG.new st hF 0 rfl bV rfl rfl rfl rfl rfl fun g9 w7 a st hF=>?_
   refine nq<|oV hF (ar hF.o (bK bV (st.bk 0 rfl) rfl)) rfl fun a hF=>oV hF (ar (hF.at 11 rfl) (bK be (st.bk 2 rfl) rfl)) rfl fun a hF=>?_
   refine SG.callx st hF (rgc k98 (aL hF.p hF.o)) (pV (moD D i) (moD D (i+1)) (smV (moD D i)%12) (smV (moD D (i+1))%12) xa xb xc xd _ (hT.below st.bel) (by first|assumption|constructor<;>omega) hmi.1 (by omega) (by omega) rfl Bi Bn hBi hBn) rfl rfl rfl rfl fun w8 a st hF=>?_
   refine oM hF 0 rfl rfl fun a hF=>oV hF (aH (v:= iv Bi) hF.o rfl) rfl fun a hF=>oV hF (aH (v:= iv Bn) hF.p rfl) rfl fun a hF=>oA hF 1 rfl rfl fun a hF=>oA hF 1 rfl rfl fun a hF=>E.nil ?_
   refine E.rg 11 aM hF [32,33,34,35,36,37,38,39,40,41,42] [_,_,_,_,_,_,_,_,.ex (iv (Bn-Bi)),.ex (.agg #[iv ((smV (moD D i)+1)%12+1),.bool (decide (smV (moD D (i+1))=smV (moD D i))),iv Bi,iv (Bn-Bi)]),.of (fun w v=>DI w8.heap.size [iv ((smV (moD D i)+1)%12+1),.bool (decide (smV (moD D (i+1))=smV (moD D i))),iv Bi,iv (Bn-Bi)] w v) DI.mb] (by decide+kernel) rfl rfl rfl ⟨rm 15 rfl,rb st.toSt bV 8 0 rfl,ck st.toSt k99 rfl fun _ s=>bD (EB (moD D i) _ _ _),rb st.toSt bV 8 0 rfl,ck st.toSt CN rfl fun _ s=>bD (pZ (moD D i) _ hmi.1),rm 1 rfl,rm 0 rfl,rm 1 rfl,(by intro a' w' hF' hb hd;have e38:=tE hd 0 rfl;have e39:=tE hd 1 rfl;exact dv0 (aq e38 e39 aa (bB (by omega) (by omega))) rfl rfl rfl),(by intro a' w' hF' hb hd;have e34:=tE hd 0 rfl;have e36:=tE hd 1 rfl;have e37:=tE hd 2 rfl;have e40:=tE hd 3 rfl;exact dv0 (bn (rM e34 e36 e37 e40) (AK _ _ _ _ _)) rfl rfl rfl),(by intro a' w' hF' hb hd;have e41:=tE hd 0 rfl;obtain⟨gl,wl,hr,ge,b2,hk⟩:=RC w' _ _ _ _;exact bX (aR rfl) (bG.vals (bO (eQ e41) hr) ⟨⟨gl,rfl,by rw[<-ge];exact hb.size,hk⟩,b2,(fun h=>absurd h (by decide))⟩)),trivial⟩ ?_
   intro a w9 hF bb hall
   have s0:=st
   replace st:=st.to bb
   replace hF:=rE hall hF 0 rfl rfl
   obtain⟨_,e42,glu10,rfl,geu10,ou10⟩:=sS hall 10 42 rfl rfl
   replace st:=st.push ou10 (Nat.le_trans s0.bel.size geu10) (s0.ne geu10) (s0.away geu10)
   replace hF:=hF.add e42
   clear ou10
   clear hall bb s0
   obtain⟨lau11,lcu11,w12,hr,hpa,gg,bb,ku,hne⟩:=NY st.g (st.bk 0 rfl) (by omega) st.bel.size
   refine oV hF (aW (aL hF.p hF.o) hr) rfl fun a hF=>?_
   replace st:=st.grow gg bb ku tY hpa cU.gc cU.gl hne
   clear hr gg bb ku hne hpa
   refine oE hF 0 rfl rfl fun a hF=>E.nil0<|E.blk<|E.norm<|E.seq<|oV hF (aq (hF.at 16 rfl) ao aa (aX (by omega) (by omega))) rfl fun a hF=>oS hF (aD hF.o) rfl fun a hF=>E.nil0<|E.norm ?_
   replace hF:Fr 46 a [(22,iv ((i+1:Nat):Int)),(44,iv (((i:Nat):Int)+1)),(7,.slice lau11 (i+1) lcu11),(43,.slice lau11 (i+1) lcu11),(42,.slice (some ⟨glu10,0,none⟩) 1 1),(32,.slice la i lc),(11,iv Bn),(10,iv Bi),(31,iv Bn),(30,iv Bi),(26,.tuple #[iv Bi,iv Bn]),(29,.tuple #[iv Bi,iv Bn]),(28,.agg #[iv xa,iv xb,iv xc,iv xd]),(27,.agg #[iv (moD D i),iv (moD D (i+1)),iv (smV (moD D i)%12),iv (smV (moD D (i+1))%12)]),(9,.pointer (some ⟨g9,0,none⟩)),(25,.agg #[iv (moD D i),iv (moD D (i+1)),iv (smV (moD D i)%12),iv (smV (moD D (i+1))%12)]),(24,.pointer (some ⟨gr,4*i,none⟩)),(23,.bool true),(21,iv ((N:Nat):Int)),(20,.slice (some ⟨gr,0,none⟩) N cap),(5,iv 0),(4,.slice none 0 0),(3,.pointer (some ⟨g3,0,none⟩))]:=by rw[show((i+1:Nat):Int)=((i:Nat):Int)+1 by omega];exact hF
   exact⟨(N-(i+1)),by omega,⟨(i+1),lau11,lcu11,(by omega),Fr.pick (L':=[(22,iv ((i+1:Nat):Int)),(21,iv ((N:Nat):Int)),(20,.slice (some ⟨gr,0,none⟩) N cap),(7,.slice lau11 (i+1) lcu11),(5,iv 0),(4,.slice none 0 0),(3,.pointer (some ⟨g3,0,none⟩))]) hF [0,18,19,2,20,21,22] rfl,((st.pick [2,3] [] rfl rfl (by decide)).cast (by rw[<-hBi,<-hBn];rfl)),rfl⟩⟩
  ·refine wp_seq<|E.seq ?_
   refine oU hF 0 1 (aY (c:=false) (aJ (by omega))) rfl rfl rfl fun a hF=>ns<|wp_cond_false hF.o<|wp_exit<|E.past<|E.past<|E.out (id:=0)<|E.norm<|wq ?_
   refine oM hF 4 rfl rfl fun a hF=>oE hF 0 rfl rfl fun a hF=>oS hF (aZ ao) rfl fun a hF=>nr ?_
   have bel:=st.bel
   refine bodyPost_ret (eJ Tryz.results43 hF.p hF.o) hF.dfr ?_
   have ei:i=N:=by omega
   subst ei
   exact⟨_,_,rfl,st.g.1,bel⟩
theorem P0 {X Y:Int} (h0:Y<=X) (h1:X<=Y+2):(X%30+1=Y%30+1)↔Y=X:=by omega
theorem DK (z0 z1 z2 z3 xa xb xc xd:Int) (w:World) (hT:bE w) (hok:bN xa xb xc xd) (hc:aN z0=true) (hz0: -3600000<=z0) (hz1:z0<=3600000) (hn:aw z0=z1) (B:Int) (N:Nat) (hB:beV xa xb xc xd z0=B) (hN:beV xa xb xc xd z1-B=((N:Nat):Int)):
 CP 114 #[.agg #[iv z0,iv z1,iv z2,iv z3],.agg #[iv xa,iv xb,iv xc,iv xd]] w (fun e w'=>∃ad cap,e= .returned (.slice ad N cap)/\dW w' 3 97 w.heap.size (.slice ad N cap) N (dyF xa xb xc xd B N)/\Below w.heap.size w w'):=by
 obtain⟨B2,hB2⟩:∃z:Int,beV xa xb xc xd z1=z:=⟨_,rfl⟩
 rw[hB2] at hN
 have hbn:=fj hok hc
 rw[hB] at hbn
 have hbd:=gJ hok hc
 rw[hn,hB2,hB] at hbd
 refine gs2 (nt:=42) Tryz.func114 rfl rfl rfl fun a st hF=>wq<|bx st hF 0 rfl rfl fun g2 w1 a st hF=>bx st hF 2 rfl rfl fun g3 w2 a st hF=>?_
 refine oC hF rfl fun a hF=>nq ?_
 obtain⟨glu3,w4,ge,hr,bb,hpa⟩:=OI w2 w.heap.size st.bel.size
 refine oV hF (bO (by simp) hr) rfl fun a hF=>?_
 replace st:=(st.to bb).grow0 hpa cU.gc cU.gl (st.gnew ge)
 clear hr bb hpa ge
 refine oA hF 0 rfl rfl fun a hF=>nq<|oV hF (ar (hF.at 4 rfl) (bK bV (st.bk 1 rfl) rfl)) rfl fun a hF=>oV hF (ar (hF.at 4 rfl) (bK be (st.bk 0 rfl) rfl)) rfl fun a hF=>?_
 refine SG.callx st hF (rgc k98 (aL hF.p hF.o)) (pV z0 z1 z2 z3 xa xb xc xd _ (hT.below st.bel) (by first|assumption|constructor<;>omega) hc (by omega) (by omega) hn B B2 hB hB2) rfl rfl rfl rfl fun w5 a st hF=>?_
 refine oM hF 0 rfl rfl fun a hF=>oV hF (aH (v:= iv B) hF.o rfl) rfl fun a hF=>oV hF (aH (v:= iv B2) hF.p rfl) rfl fun a hF=>oA hF 1 rfl rfl fun a hF=>oA hF 1 rfl rfl fun a hF=>nq<|oM hF 1 rfl rfl fun a hF=>oV hF (aq hF.o ao aa (bB (by omega) (by omega))) rfl fun a hF=>oV hF (ar (hF.at 13 rfl) (bK be (st.bk 0 rfl) rfl)) rfl fun a hF=>?_
 refine SG.callx st hF (rgc k32 (aL hF.p hF.o)) (lh (B-1) xa xb xc xd (amX (B-1) xa xb xc xd) _ (hT.below st.bel) (by first|assumption|constructor<;>omega) (by omega) (by omega) rfl) rfl rfl rfl rfl fun w6 a st hF=>?_
 refine oA hF 0 rfl rfl fun a hF=>ns<|wq<|oM hF 6 rfl rfl fun a hF=>oA hF 0 rfl rfl fun a hF=>E.nil<|wp_block ?_
 refine E.loop (fun mq a wv=>∃(i:Nat) (nn:Int) (ah:Int) (la:Option Addr) (lc:Nat),i<=N/\nn=B+((i:Nat):Int)/\ah=amX (nn-1) xa xb xc xd%30+1/\Fr 42 a [(9,iv nn),(8,iv ah),(7,iv B2),(5,.slice la i lc),(4,.slice none 0 0),(3,.pointer (some ⟨g3,0,none⟩))]/\Sg w wv [(g3,[iv xa,iv xb,iv xc,iv xd])] [] (.slice la i lc) (fun wx=>cU wx 3 97 w.heap.size (.slice la i lc) i (dyF xa xb xc xd B i))/\mq=N-i) ((N-0)) ?_ ?_
 ·exact⟨0,B,((amX (B-1) xa xb xc xd)%30+1),(some ⟨glu3,0,none⟩),0,(Nat.zero_le _),(by omega),rfl,Fr.pick (L':=[(9,iv B),(8,iv ((amX (B-1) xa xb xc xd)%30+1)),(7,iv B2),(5,.slice (some ⟨glu3,0,none⟩) 0 0),(4,.slice none 0 0),(3,.pointer (some ⟨g3,0,none⟩))]) hF [0,2,7,15,17,18] rfl,((st.pick [0] [] rfl rfl (by decide)).cast rfl),rfl⟩
 ·rintro mq a w7 ⟨i,nn,ah,la,lc,hi,hnn,hah,hF,st,hm⟩
  by_cases hlt:i<N
  ·have hsi:=vY hok (nn-1)
   rw[show nn-1+1=nn by omega] at hsi
   have hag:(amX nn xa xb xc xd%30+1=ah)↔(amX (nn-1) xa xb xc xd=amX nn xa xb xc xd):=by rw[hah];exact P0 (by omega) (by omega)
   refine wp_seq<|wq<|oM hF 0 rfl rfl fun a hF=>oM hF 3 rfl rfl fun a hF=>oU hF 1 0 (aY (c:=true) (aI (by omega))) rfl rfl rfl fun a hF=>E.nil<|wp_cond_true hF.o<|wp_skip<|E.norm<|wp_seq<|wp_block<|wq<|oM hF 3 rfl rfl fun a hF=>oV hF (ar (hF.at 9 rfl) (bK be (st.bk 0 rfl) rfl)) rfl fun a hF=>?_
   refine SG.callx st hF (rgc k32 (aL hF.p hF.o)) (lh nn xa xb xc xd (amX nn xa xb xc xd) _ (hT.below st.bel) (by first|assumption|constructor<;>omega) (by omega) (by omega) rfl) rfl rfl rfl rfl fun w8 a st hF=>?_
   refine oA hF 0 rfl rfl fun a hF=>nq<|oM hF 10 rfl rfl fun a hF=>oM hF 8 rfl rfl fun a hF=>oM hF 2 rfl rfl fun a hF=>oM hF 3 rfl rfl fun a hF=>oM hF 12 rfl rfl fun a hF=>oU hF 1 0 (aV (c:=decide (amX (nn-1) xa xb xc xd=amX nn xa xb xc xd)) (decide_eq_decide.2 hag)) rfl rfl rfl fun a hF=>oV hF (bn (lX (hF.at 4 rfl) (hF.at 3 rfl) hF.o) (Dc _ _ _ _)) rfl fun a hF=>?_
   obtain⟨glu9,w10,hr,ge,bb,hbk⟩:=RF w8 _ _ _
   refine oV hF (bO (eQ hF.o) hr) rfl fun a hF=>?_
   replace st:=st.new ge bb hbk
   clear hr bb hbk ge
   obtain⟨lau11,lcu11,w12,hr,hpa,gg,bb,ku,hne⟩:=PL st.g (st.bk 0 rfl) (by omega) st.bel.size
   refine oV hF (aW (aL (hF.at 7 rfl) hF.o) hr) rfl fun a hF=>?_
   replace st:=st.grow gg bb ku tY hpa cU.gc cU.gl hne
   clear hr gg bb ku hne hpa
   refine oE hF 0 rfl rfl fun a hF=>E.nil<|E.seq<|oM hF 10 rfl rfl fun a hF=>oE hF 0 rfl rfl fun a hF=>E.nil0<|E.blk<|E.norm<|E.seq<|oM hF 19 rfl rfl fun a hF=>oV hF (aq hF.o ao aa (aX (by omega) (by omega))) rfl fun a hF=>oE hF 0 rfl rfl fun a hF=>?_
   refine E.nil0<|E.norm ?_
   exact⟨(N-(i+1)),by omega,⟨(i+1),(nn+1),((amX nn xa xb xc xd)%30+1),lau11,lcu11,(by omega),(by omega),(by rw[show nn+1-1=nn by omega]),Fr.pick (L':=[(9,iv (nn+1)),(8,iv ((amX nn xa xb xc xd)%30+1)),(7,iv B2),(5,.slice lau11 (i+1) lcu11),(4,.slice none 0 0),(3,.pointer (some ⟨g3,0,none⟩))]) hF [0,3,22,5,23,24] rfl,((st.pick [1] [] rfl rfl (by decide)).cast (by rw[hnn];rfl)),rfl⟩⟩
  ·refine wp_seq<|wq<|oM hF 0 rfl rfl fun a hF=>oM hF 3 rfl rfl fun a hF=>oU hF 1 0 (aY (c:=false) (aJ (by omega))) rfl rfl rfl fun a hF=>E.nil<|wp_cond_false hF.o<|wp_exit<|E.past<|E.past<|E.out (id:=0)<|E.norm<|wq ?_
   refine oM hF 6 rfl rfl fun a hF=>oE hF 0 rfl rfl fun a hF=>nr ?_
   have bel:=st.bel
   refine rt Tryz.results114 hF 0 rfl ?_
   have ei:i=N:=by omega
   subst ei
   exact⟨_,_,rfl,st.g.1,bel⟩
theorem yq (y m:Int) (l:Bool) (xa xb xc xd:Int) (w:World) (hE:ff y m 1 xa xb xc xd≠0):
 CP 49 #[iv y,iv m,.bool l,.agg #[iv xa,iv xb,iv xc,iv xd]] w (fun e w'=>∃ad cap,e= .returned (.tuple #[.slice ad 0 cap,iv (ff y m 1 xa xb xc xd)])/\Below w.heap.size w w'):=by
 have st:=St.start w
 refine E.enter (nt:=37) (L:=[(0,iv y),(1,iv m),(2,.bool l),(3,.agg #[iv xa,iv xb,iv xc,iv xd])]) Tryz.func49 rfl rfl rfl (aC (i:=0) rfl (aC (i:=1) rfl (aC (i:=2) rfl (aC (i:=3) rfl cC)))) ?_
 intro a hF
 refine wq<|bx st hF 3 rfl rfl fun g7 w1 a st hF=>?_
 refine oC hF rfl fun a hF=>oC hF rfl fun a hF=>ns<|wq<|oM hF 3 rfl rfl fun a hF=>oM hF 5 rfl rfl fun a hF=>oV hF (bn (lX hF.p hF.o ao) (gj _ _ _ _)) rfl fun a hF=>oL hF st 5 0 be rfl rfl rfl rfl fun a hF=>cX st hF (rgc rf (aL hF.p hF.o)) (hO y m false 1 false xa xb xc xd _) rfl fun w2 a st hF=>?_
 refine oA hF 0 rfl rfl fun a hF=>nq<|oM hF 0 rfl rfl fun a hF=>oT hF 0 (db (c:=true) (aI hE)) rfl rfl fun a hF=>E.nil<|wp_cond_true hF.o<|wq ?_
 refine oM hF 2 rfl rfl fun a hF=>oS hF (aZ ao) rfl fun a hF=>oE hF 1 rfl rfl fun a hF=>nr<|E.pastr ?_
 have bel:=st.bel
 refine bodyPost_ret (eJ Tryz.results49 hF.p hF.o) hF.dfr ?_
 exact⟨_,_,rfl,bel⟩
theorem yX (y m:Int) (l:Bool) (xa xb xc xd:Int) (w:World) (hT:bE w) (hok:bN xa xb xc xd) (hy0: -9000<=y) (hy1:y<=9000) (hm0:1<=m) (hm1:m<=12) (hn:∀L,aN L=true->smV L=fiS y m->¬decide (smV (aw L)=smV L)=l):
 CP 49 #[iv y,iv m,.bool l,.agg #[iv xa,iv xb,iv xc,iv xd]] w (fun e w'=>∃ad cap,e= .returned (.tuple #[.slice ad 0 cap,iv (3)])/\Below w.heap.size w w'):=by
 have hma:ff y m 1 xa xb xc xd=0:=ux (rK hok) (by omega) (by omega)
 by_cases hz:(fiL y m).length =0
 ·have hM0:=hz
  have st:=St.start w
  refine E.enter (nt:=37) (L:=[(0,iv y),(1,iv m),(2,.bool l),(3,.agg #[iv xa,iv xb,iv xc,iv xd])]) Tryz.func49 rfl rfl rfl (aC (i:=0) rfl (aC (i:=1) rfl (aC (i:=2) rfl (aC (i:=3) rfl cC)))) ?_
  intro a hF
  refine wq<|bx st hF 3 rfl rfl fun g7 w1 a st hF=>?_
  refine oC hF rfl fun a hF=>oC hF rfl fun a hF=>ns<|wq<|oM hF 3 rfl rfl fun a hF=>oM hF 5 rfl rfl fun a hF=>oV hF (bn (lX hF.p hF.o ao) (gj _ _ _ _)) rfl fun a hF=>oL hF st 5 0 be rfl rfl rfl rfl fun a hF=>cX st hF (rgc rf (aL hF.p hF.o)) (hO y m false 1 false xa xb xc xd _) rfl fun w2 a st hF=>?_
  refine oA hF 0 rfl rfl fun a hF=>nq<|oM hF 0 rfl rfl fun a hF=>oT hF 0 (db (c:=false) (aJ (fun e=>e hma))) rfl rfl fun a hF=>E.nil<|wp_cond_false hF.o<|wp_skip<|E.norm<|wp_seq<|wq<|oM hF 11 rfl rfl fun a hF=>oM hF 13 rfl rfl fun a hF=>?_
  refine E.call hF (rgc yR (aL hF.p hF.o)) (iT y m _ (hT.below st.bel) (by omega) (by omega) (by omega) (by omega)) rfl rfl rfl rfl ?_
  rintro e w3 ⟨ad0,cap0,rfl,_,bb⟩
  refine⟨_,rfl,?_⟩
  intro a hF
  rw[hM0] at hF
  replace st:=st.to bb
  clear bb
  refine oV hF (aW (aG hF.o) iY) rfl fun a hF=>oV hF (aD ao) rfl fun a hF=>E.nil<|wp_block ?_
  refine E.loop (fun mq a wv=>Fr 37 a [(25,iv 0),(24,iv ((0:Nat):Int)),(23,.slice ad0 0 cap0),(7,.pointer (some ⟨g7,0,none⟩)),(2,.bool l)]/\St w wv [(g7,[iv xa,iv xb,iv xc,iv xd])] []/\mq=0) (0) ?_ ?_
  ·exact⟨Fr.pick (L':=[(25,iv 0),(24,iv ((0:Nat):Int)),(23,.slice ad0 0 cap0),(7,.pointer (some ⟨g7,0,none⟩)),(2,.bool l)]) hF [0,1,2,15,18] rfl,st.pick [0] [] rfl rfl (by decide),rfl⟩
  ·rintro mq a w4 ⟨hF,st,hm⟩
   refine wq ?_
   refine oU hF 0 1 (aY (c:=false) (aJ (by decide))) rfl rfl rfl fun a hF=>ns<|wp_cond_false hF.o<|wp_exit<|E.past<|E.past<|E.out (id:=0)<|E.norm<|wq ?_
   refine oC hF rfl fun a hF=>oC hF rfl fun a hF=>nr ?_
   have bel:=st.bel
   refine bodyPost_ret (eJ Tryz.results49 hF.p hF.o) hF.dfr ?_
   exact⟨_,_,rfl,bel⟩
 ·obtain⟨M0,hM0⟩:∃z,(fiL y m).length =z:=⟨_,rfl⟩
  have hM2:=vH y m
  rw[hM0] at hM2
  rw[hM0] at hz
  have hfe:=ju hy0 hy1 hm0 hm1
  have st:=St.start w
  refine E.enter (nt:=37) (L:=[(0,iv y),(1,iv m),(2,.bool l),(3,.agg #[iv xa,iv xb,iv xc,iv xd])]) Tryz.func49 rfl rfl rfl (aC (i:=0) rfl (aC (i:=1) rfl (aC (i:=2) rfl (aC (i:=3) rfl cC)))) ?_
  intro a hF
  refine wq<|bx st hF 3 rfl rfl fun g7 w1 a st hF=>?_
  refine oC hF rfl fun a hF=>oC hF rfl fun a hF=>ns<|wq<|oM hF 3 rfl rfl fun a hF=>oM hF 5 rfl rfl fun a hF=>oV hF (bn (lX hF.p hF.o ao) (gj _ _ _ _)) rfl fun a hF=>oL hF st 5 0 be rfl rfl rfl rfl fun a hF=>cX st hF (rgc rf (aL hF.p hF.o)) (hO y m false 1 false xa xb xc xd _) rfl fun w2 a st hF=>?_
  refine oA hF 0 rfl rfl fun a hF=>nq<|oM hF 0 rfl rfl fun a hF=>oT hF 0 (db (c:=false) (aJ (fun e=>e hma))) rfl rfl fun a hF=>E.nil<|wp_cond_false hF.o<|wp_skip<|E.norm<|wp_seq<|wq<|oM hF 11 rfl rfl fun a hF=>oM hF 13 rfl rfl fun a hF=>?_
  refine E.call hF (rgc yR (aL hF.p hF.o)) (iT y m _ (hT.below st.bel) (by omega) (by omega) (by omega) (by omega)) rfl rfl rfl rfl ?_
  rintro e w3 ⟨_,capp,rfl,hia,bb⟩
  refine⟨_,rfl,?_⟩
  intro a hF
  rw[hM0] at hia hF
  obtain⟨gr,morep,rfl,_,hge,hbk⟩:=hia.row (by omega)
  replace st:=(st.to bb).push hbk (Nat.le_trans st.bel.size hge) (st.ne hge)
  clear hia bb hbk hge
  refine oV hF (aW (aG hF.o) iY) rfl fun a hF=>oV hF (aD ao) rfl fun a hF=>E.nil<|wp_block ?_
  refine E.loop (fun mq a wv=>∃(i:Nat),i<=M0/\Fr 37 a [(25,iv ((i:Nat):Int)),(24,iv ((M0:Nat):Int)),(23,.slice (some ⟨gr,0,none⟩) M0 capp),(7,.pointer (some ⟨g7,0,none⟩)),(2,.bool l)]/\St w wv [(gr,iJ (fiL y m)++morep),(g7,[iv xa,iv xb,iv xc,iv xd])] []/\mq=M0-i) ((M0-0)) ?_ ?_
  ·exact⟨0,(Nat.zero_le _),Fr.pick (L':=[(25,iv ((0:Nat):Int)),(24,iv ((M0:Nat):Int)),(23,.slice (some ⟨gr,0,none⟩) M0 capp),(7,.pointer (some ⟨g7,0,none⟩)),(2,.bool l)]) hF [0,1,2,15,18] rfl,st.pick [0,1] [] rfl rfl (by decide),rfl⟩
  ·rintro mq a w4 ⟨i,hi,hF,st,hm⟩
   by_cases hlt:i<M0
   ·have hfd:=AA (y:=y) (m:=m) (i:=i) (by omega)
    refine wq ?_
    refine oU hF 0 1 (aY (c:=true) (aI (by omega))) rfl rfl rfl fun a hF=>ns<|wp_cond_true hF.o<|wp_skip<|E.norm<|wp_seq<|wp_block<|wq<|oV hF (bS (hF.at 3 rfl) hF.p (oe (i:=i) (by omega) (by omega))) rfl fun a hF=>oV hF (ar hF.o (jn (vs:=[iv ((fiD y m i)),iv (aw (fiD y m i)),iv (smV (fiD y m i)%12),iv (smV (aw (fiD y m i))%12)]) (st.bk 0 rfl) (oF (fiL y m) morep (by omega)) rfl)) rfl fun a hF=>S.new st hF 0 rfl bV rfl rfl rfl rfl rfl fun g12 w5 a st hF=>nq ?_
    refine oL hF st 0 0 bV rfl rfl rfl rfl fun a hF=>cX st hF (rgc CN (aG hF.o)) (pZ (fiD y m i) _ (mM (by omega)).1) rfl fun w6 a st hF=>oM hF 10 rfl rfl fun a hF=>oV hF (aq hF.p hF.o cZ (iw (d:=false) (beq_eq_false_iff_ne.2 (hn _ (mM (by omega)).1 (mM (by omega)).2)))) rfl fun a hF=>E.nil<|wp_cond_false hF.o<|wp_skip<|E.blk<|E.norm<|E.seq<|oV hF (aq (hF.at 8 rfl) ao aa (aX (by omega) (by omega))) rfl fun a hF=>oS hF (aD hF.o) rfl fun a hF=>?_
    refine E.nil0<|E.norm ?_
    replace hF:Fr 37 a [(25,iv ((i+1:Nat):Int)),(36,iv (((i:Nat):Int)+1)),(32,.bool false),(31,.bool l),(30,.bool (decide (smV (aw (fiD y m i))=smV (fiD y m i)))),(29,.agg #[iv (fiD y m i),iv (aw (fiD y m i)),iv (smV (fiD y m i)%12),iv (smV (aw (fiD y m i))%12)]),(12,.pointer (some ⟨g12,0,none⟩)),(28,.agg #[iv (fiD y m i),iv (aw (fiD y m i)),iv (smV (fiD y m i)%12),iv (smV (aw (fiD y m i))%12)]),(27,.pointer (some ⟨gr,4*i,none⟩)),(26,.bool true),(24,iv ((M0:Nat):Int)),(23,.slice (some ⟨gr,0,none⟩) M0 capp),(7,.pointer (some ⟨g7,0,none⟩)),(2,.bool l)]:=by rw[show((i+1:Nat):Int)=((i:Nat):Int)+1 by omega];exact hF
    exact⟨(M0-(i+1)),by omega,⟨(i+1),(by omega),Fr.pick (L':=[(25,iv ((i+1:Nat):Int)),(24,iv ((M0:Nat):Int)),(23,.slice (some ⟨gr,0,none⟩) M0 capp),(7,.pointer (some ⟨g7,0,none⟩)),(2,.bool l)]) hF [0,10,11,12,13] rfl,st.pick [1,2] [] rfl rfl (by decide),rfl⟩⟩
   ·refine wp_seq<|E.seq ?_
    refine oU hF 0 1 (aY (c:=false) (aJ (by omega))) rfl rfl rfl fun a hF=>ns<|wp_cond_false hF.o<|wp_exit<|E.past<|E.past<|E.out (id:=0)<|E.norm<|wq ?_
    refine oC hF rfl fun a hF=>oC hF rfl fun a hF=>nr ?_
    have bel:=st.bel
    refine bodyPost_ret (eJ Tryz.results49 hF.p hF.o) hF.dfr ?_
    exact⟨_,_,rfl,bel⟩
theorem sT (y m:Int) (l:Bool) (xa xb xc xd:Int) (w:World) (hT:bE w) (hok:bN xa xb xc xd) (hy0: -9000<=y) (hy1:y<=9000) (hm0:1<=m) (hm1:m<=12) (L B:Int) (N:Nat) (hc:aN L=true) (hs:smV L=fiS y m) (hl:decide (smV (aw L)=smV L)=l) (hB:beV xa xb xc xd L=B) (hN:beV xa xb xc xd (aw L)-B=((N:Nat):Int)):
 CP 49 #[iv y,iv m,.bool l,.agg #[iv xa,iv xb,iv xc,iv xd]] w (fun e w'=>∃ad cap,e= .returned (.tuple #[.slice ad N cap,iv 0])/\dW w' 3 97 w.heap.size (.slice ad N cap) N (dyF xa xb xc xd B N)/\Below w.heap.size w w'):=by
 have hma:ff y m 1 xa xb xc xd=0:=ux (rK hok) (by omega) (by omega)
 have hz:(fiL y m).length ≠0:=by obtain⟨j,hj,_⟩:=sE hc hs;omega
 obtain⟨M0,hM0⟩:∃z,(fiL y m).length =z:=⟨_,rfl⟩
 have hM2:=vH y m
 rw[hM0] at hM2
 rw[hM0] at hz
 have hfe:=ju hy0 hy1 hm0 hm1
 have st:=St.start w
 refine E.enter (nt:=37) (L:=[(0,iv y),(1,iv m),(2,.bool l),(3,.agg #[iv xa,iv xb,iv xc,iv xd])]) Tryz.func49 rfl rfl rfl (aC (i:=0) rfl (aC (i:=1) rfl (aC (i:=2) rfl (aC (i:=3) rfl cC)))) ?_
 intro a hF
 refine wq<|bx st hF 3 rfl rfl fun g7 w1 a st hF=>?_
 refine oC hF rfl fun a hF=>oC hF rfl fun a hF=>ns<|wq<|oM hF 3 rfl rfl fun a hF=>oM hF 5 rfl rfl fun a hF=>oV hF (bn (lX hF.p hF.o ao) (gj _ _ _ _)) rfl fun a hF=>oL hF st 5 0 be rfl rfl rfl rfl fun a hF=>cX st hF (rgc rf (aL hF.p hF.o)) (hO y m false 1 false xa xb xc xd _) rfl fun w2 a st hF=>?_
 refine oA hF 0 rfl rfl fun a hF=>nq<|oM hF 0 rfl rfl fun a hF=>oT hF 0 (db (c:=false) (aJ (fun e=>e hma))) rfl rfl fun a hF=>E.nil<|wp_cond_false hF.o<|wp_skip<|E.norm<|wp_seq<|wq<|oM hF 11 rfl rfl fun a hF=>oM hF 13 rfl rfl fun a hF=>?_
 refine E.call hF (rgc yR (aL hF.p hF.o)) (iT y m _ (hT.below st.bel) (by omega) (by omega) (by omega) (by omega)) rfl rfl rfl rfl ?_
 rintro e w3 ⟨_,capp,rfl,hia,bb⟩
 refine⟨_,rfl,?_⟩
 intro a hF
 rw[hM0] at hia hF
 obtain⟨gr,morep,rfl,_,hge,hbk⟩:=hia.row (by omega)
 replace st:=(st.to bb).push hbk (Nat.le_trans st.bel.size hge) (st.ne hge)
 clear hia bb hbk hge
 refine oV hF (aW (aG hF.o) iY) rfl fun a hF=>oV hF (aD ao) rfl fun a hF=>E.nil<|wp_block ?_
 refine E.loop (fun mq a wv=>∃(i:Nat),i<=M0/\(∀j,j<i->fiD y m j≠L)/\Fr 37 a [(25,iv ((i:Nat):Int)),(24,iv ((M0:Nat):Int)),(23,.slice (some ⟨gr,0,none⟩) M0 capp),(7,.pointer (some ⟨g7,0,none⟩)),(2,.bool l)]/\St w wv [(gr,iJ (fiL y m)++morep),(g7,[iv xa,iv xb,iv xc,iv xd])] []/\mq=M0-i) ((M0-0)) ?_ ?_
 ·exact⟨0,(Nat.zero_le _),(fun j h=>absurd h (Nat.not_lt_zero _)),Fr.pick (L':=[(25,iv ((0:Nat):Int)),(24,iv ((M0:Nat):Int)),(23,.slice (some ⟨gr,0,none⟩) M0 capp),(7,.pointer (some ⟨g7,0,none⟩)),(2,.bool l)]) hF [0,1,2,15,18] rfl,st.pick [0,1] [] rfl rfl (by decide),rfl⟩
 ·rintro mq a w4 ⟨i,hi,hno,hF,st,hm⟩
  by_cases hlt:i<M0
  ·have hfd:=AA (y:=y) (m:=m) (i:=i) (by omega)
   refine wq ?_
   refine oU hF 0 1 (aY (c:=true) (aI (by omega))) rfl rfl rfl fun a hF=>ns<|wp_cond_true hF.o<|wp_skip<|E.norm<|wp_seq<|wp_block<|wq<|oV hF (bS (hF.at 3 rfl) hF.p (oe (i:=i) (by omega) (by omega))) rfl fun a hF=>oV hF (ar hF.o (jn (vs:=[iv ((fiD y m i)),iv (aw (fiD y m i)),iv (smV (fiD y m i)%12),iv (smV (aw (fiD y m i))%12)]) (st.bk 0 rfl) (oF (fiL y m) morep (by omega)) rfl)) rfl fun a hF=>S.new st hF 0 rfl bV rfl rfl rfl rfl rfl fun g12 w5 a st hF=>nq ?_
   refine oL hF st 0 0 bV rfl rfl rfl rfl fun a hF=>cX st hF (rgc CN (aG hF.o)) (pZ (fiD y m i) _ (mM (by omega)).1) rfl fun w6 a st hF=>oM hF 10 rfl rfl fun a hF=>?_
   by_cases hc7:decide (smV (aw (fiD y m i))=smV (fiD y m i))=l
   ·refine oV hF (aq hF.p hF.o cZ (iw (d:=true) (beq_iff_eq.2 hc7))) rfl fun a hF=>E.nil<|wp_cond_true hF.o<|wq<|oL hF st 4 0 bV rfl rfl rfl rfl fun a hF=>oL hF st 12 2 be rfl rfl rfl rfl fun a hF=>?_
    have hd:=mM (y:=y) (m:=m) (i:=i) (by omega)
    have hLe:fiD y m i=L:=BA hd.1 hc (hd.2.trans hs.symm) (by have e:=decide_eq_decide.1 (hc7.trans hl.symm);have a1:=gS hd.1;have a2:=gS hc;omega)
    refine E.call hF (rgc Sd (aL hF.p hF.o)) (DK (fiD y m i) (aw (fiD y m i)) (smV (fiD y m i)%12) (smV (aw (fiD y m i))%12) xa xb xc xd _ (hT.below st.bel) (by first|assumption|constructor<;>omega) hd.1 (by omega) (by omega) rfl B N (by rw[hLe];exact hB) (by rw[hLe];exact hN)) rfl rfl rfl rfl ?_
    rintro e w8 ⟨ad2,cap2,rfl,hir,bb⟩
    refine⟨_,rfl,?_⟩
    intro a hF
    replace hir:=hir.low st.bel.size
    replace st:=st.to bb
    clear bb
    refine oA hF 0 rfl rfl fun a hF=>oC hF rfl fun a hF=>nr<|E.pastbr<|E.pastr<|E.pastr<|E.pastbr<|E.pastr ?_
    have bel:=st.bel
    refine bodyPost_ret (eJ Tryz.results49 hF.p hF.o) hF.dfr ?_
    exact⟨_,_,rfl,hir,bel⟩
   ·refine oV hF (aq hF.p hF.o cZ (iw (d:=false) (beq_eq_false_iff_ne.2 hc7))) rfl fun a hF=>E.nil<|wp_cond_false hF.o<|wp_skip<|E.blk<|E.norm<|E.seq<|oV hF (aq (hF.at 8 rfl) ao aa (aX (by omega) (by omega))) rfl fun a hF=>oS hF (aD hF.o) rfl fun a hF=>E.nil0<|E.norm ?_
    replace hF:Fr 37 a [(25,iv ((i+1:Nat):Int)),(36,iv (((i:Nat):Int)+1)),(32,.bool false),(31,.bool l),(30,.bool (decide (smV (aw (fiD y m i))=smV (fiD y m i)))),(29,.agg #[iv (fiD y m i),iv (aw (fiD y m i)),iv (smV (fiD y m i)%12),iv (smV (aw (fiD y m i))%12)]),(12,.pointer (some ⟨g12,0,none⟩)),(28,.agg #[iv (fiD y m i),iv (aw (fiD y m i)),iv (smV (fiD y m i)%12),iv (smV (aw (fiD y m i))%12)]),(27,.pointer (some ⟨gr,4*i,none⟩)),(26,.bool true),(24,iv ((M0:Nat):Int)),(23,.slice (some ⟨gr,0,none⟩) M0 capp),(7,.pointer (some ⟨g7,0,none⟩)),(2,.bool l)]:=by rw[show((i+1:Nat):Int)=((i:Nat):Int)+1 by omega];exact hF
    exact⟨(M0-(i+1)),by omega,⟨(i+1),(by omega),(fun j hj e=>if h:j=i then hc7 (by rw[h] at e;rw[e];exact hl) else hno j (by omega) e),Fr.pick (L':=[(25,iv ((i+1:Nat):Int)),(24,iv ((M0:Nat):Int)),(23,.slice (some ⟨gr,0,none⟩) M0 capp),(7,.pointer (some ⟨g7,0,none⟩)),(2,.bool l)]) hF [0,10,11,12,13] rfl,st.pick [1,2] [] rfl rfl (by decide),rfl⟩⟩
  ·refine wp_seq<|E.seq ?_
   refine oU hF 0 1 (aY (c:=false) (aJ (by omega))) rfl rfl rfl fun a hF=>ns<|wp_cond_false hF.o<|wp_exit<|E.past<|E.past<|E.out (id:=0)<|E.norm<|wq ?_
   refine oC hF rfl fun a hF=>oC hF rfl fun a hF=>nr ?_
   have bel:=st.bel
   refine bodyPost_ret (eJ Tryz.results49 hF.p hF.o) hF.dfr ?_
   exfalso
   obtain⟨j,hj,e⟩:=sE hc hs
   exact hno j (by omega) e.symm
end Go.Proofs.YtgdpkknapcgcbaaGreatDoor
