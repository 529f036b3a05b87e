import Derived.Test.YtgdpkknapcgcbaaGreatDoorKD41
import Derived.Laws.BytesString
import Derived.Laws.StructEq
namespace Go.Proofs.YtgdpkknapcgcbaaGreatDoor
open Go.RowKit
set_option maxRecDepth 100000
set_option linter.unusedVariables false
set_option maxHeartbeats 8000000
theorem yx (L M z3:Int) (w:World):CV 99 #[.agg #[iv L,iv M,iv (smV L%12),iv z3]] w (iv ((smV L+1)%12+1)):=by
 have h:=gF L M (smV L%12) z3 w (by omega) (by omega)
 rw[show(smV L%12+1)%12+1=(smV L+1)%12+1 by omega] at h
 exact h
theorem xh (L:Int) (w:World) (hc:aF L=true):CV 100 #[.agg #[iv L,iv (az L),iv (smV L%12),iv (smV (az L)%12)]] w (.bool (decide (smV (az L)=smV L))):=by
 have h:=oG L (az L) (smV L%12) (smV (az L)%12) w
 have n:=kl hc
 rw[show decide (smV L%12=smV (az L)%12)=decide (smV (az L)=smV L) from decide_eq_decide.2 (by omega)] at h
 exact h
theorem tr (y xa xb xc xd:Int) (w:World) (hE:eu y 1 1 xa xb xc xd≠0):
 CP 43 #[iv y,.agg #[iv xa,iv xb,iv xc,iv xd]] w (fun e w'=>∃ad cap,e= .returned (.tuple #[.slice ad 0 cap,iv (eu y 1 1 xa xb xc xd)])/\Below w.heap.size w w'):=by
 refine gs2 (nt:=46) Tryz.func43 rfl rfl rfl fun a st hF=>wq<|bx st hF 1 rfl rfl fun g3 w1 a st hF=>?_
 refine oC hF rfl fun a hF=>oC hF rfl fun a hF=>ns<|wq<|oM hF 3 rfl rfl fun a hF=>oL hF st 3 0 aO rfl rfl rfl rfl fun a hF=>cX st hF (rgc k96 (aK hF.p hF.o)) (lA y xa xb xc xd _) rfl fun w2 a st hF=>?_
 refine oA hF 0 rfl rfl fun a hF=>nq<|oM hF 0 rfl rfl fun a hF=>oT hF 0 (dS (c:=true) (aJ hE)) rfl rfl fun a hF=>E.nil<|wp_cond_true hF.o<|wq ?_
 refine oM hF 2 rfl rfl fun a hF=>oS hF (aQ ah) rfl fun a hF=>oE hF 1 rfl rfl fun a hF=>nr<|E.pastr ?_
 have bel:=st.bel
 refine bodyPost_ret (fA Tryz.results43 hF.p hF.o) hF.dfr ?_
 exact⟨_,_,rfl,bel⟩
theorem um (y xa xb xc xd:Int) (w:World) (hT:aY w) (hok:aZ xa xb xc xd) (hy0: -9000<=y) (hy1:y<=9000) (D:Int) (N:Nat) (hD:yfV (fiS y 1)=D) (hN:yrN (fiS y 1)=N):
 CP 43 #[iv y,.agg #[iv xa,iv xb,iv xc,iv xd]] w (fun e w'=>∃ad cap,e= .returned (.tuple #[.slice ad N cap,iv 0])/\kV w' 4 81 w.heap.size (.slice ad N cap) N (hdF xa xb xc xd D N)/\Below w.heap.size w w'):=by
 have hma:eu y 1 1 xa xb xc xd=0:=CZ (wD hok) (by omega) (by omega)
 have hNb:=CB (fiS y 1)
 rw[hN] at hNb
 refine gs2 (nt:=46) Tryz.func43 rfl rfl rfl fun a st hF=>wq<|bx st hF 1 rfl rfl fun g3 w1 a st hF=>?_
 refine oC hF rfl fun a hF=>oC hF rfl fun a hF=>ns<|wq<|oM hF 3 rfl rfl fun a hF=>oL hF st 3 0 aO rfl rfl rfl rfl fun a hF=>cX st hF (rgc k96 (aK hF.p hF.o)) (lA y xa xb xc xd _) rfl fun w2 a st hF=>?_
 refine oA hF 0 rfl rfl fun a hF=>nq<|oM hF 0 rfl rfl fun a hF=>oT hF 0 (dS (c:=false) (aH (fun e=>e hma))) rfl rfl fun a hF=>E.nil<|wp_cond_false hF.o<|wp_skip<|E.norm<|wq ?_
 obtain⟨glu3,w4,ge,hr,bb,hpa⟩:=zw w2 w.heap.size st.bel.size
 refine oV hF (du (by simp) hr) rfl fun a hF=>?_
 replace st:=(st.to bb).grow0 hpa cd.gc cd.gl (st.gnew ge)
 clear hr bb hpa ge
 refine oA hF 0 rfl rfl fun a hF=>ns<|wq<|oM hF 11 rfl rfl fun a hF=>?_
 refine E.call hF (rgc k97 (aC hF.o)) (Ai y N _ (hT.below st.bel) hy0 hy1 hN) rfl rfl rfl rfl ?_
 rintro e w5 ⟨_,cap,rfl,hia,bb⟩
 refine⟨_,rfl,?_⟩
 intro a hF
 obtain⟨gr,more,rfl,_,hge,hbk⟩:=hia.row (by omega)
 replace st:=(st.to bb).push hbk (Nat.le_trans st.bel.size hge) (st.ne hge) (st.away hge)
 clear hia bb hbk hge
 refine oV hF (bI (aC hF.o) Bo) rfl fun a hF=>oV hF (aG ah) rfl fun a hF=>E.nil<|wp_block ?_
 refine E.loop (fun mq a wv=>∃(i:Nat) (la:Option Addr) (lc:Nat),i<=N/\Fr 46 a [(22,iv ((i:Nat):Int)),(21,iv ((N:Nat):Int)),(20,.slice (some ⟨gr,0,none⟩) N cap),(7,.slice la i lc),(5,iv 0),(4,.slice none 0 0),(3,.pointer (some ⟨g3,0,none⟩))]/\Sg w wv [(gr,gZ (inL y)++more),(g3,[iv xa,iv xb,iv xc,iv xd])] [] (.slice la i lc) (fun wx=>cd wx 4 81 w.heap.size (.slice la i lc) i (hdF xa xb xc xd D i))/\mq=N-i) ((N-0)) ?_ ?_
 ·exact⟨0,(some ⟨glu3,0,none⟩),0,(Nat.zero_le _),Fr.pick (L':=[(22,iv ((0:Nat):Int)),(21,iv ((N:Nat):Int)),(20,.slice (some ⟨gr,0,none⟩) N cap),(7,.slice (some ⟨glu3,0,none⟩) 0 0),(5,iv 0),(4,.slice none 0 0),(3,.pointer (some ⟨g3,0,none⟩))]) hF [0,1,2,4,12,13,14] rfl,((st.pick [0,1] [] rfl rfl (by decide)).cast rfl),rfl⟩
 ·rintro mq a w6 ⟨i,la,lc,hi,hF,st,hm⟩
  by_cases hlt:i<N
  ·have hmi:=sR hok (fiS y 1) i
   rw[hD] at hmi
   have hsi:=zl (fiS y 1) (i:=i) (by omega)
   rw[hD] at hsi
   have hwi:=iB (n:=moD D i) (y:=y) (m:=smV (moD D i)-fiS y 1+1) (by unfold fiS at*;omega)
   have hfi:=kD (y:=y) (m:=smV (moD D i)-fiS y 1+1) hy0 hy1 (by omega) (by omega)
   obtain⟨Bi,hBi⟩:∃z:Int,beV xa xb xc xd (moD D i)=z:=⟨_,rfl⟩
   obtain⟨Bn,hBn⟩:∃z:Int,beV xa xb xc xd (moD D (i+1))=z:=⟨_,rfl⟩
   have hni:=kk hok hmi.1
   rw[hBi] at hni
   rw[hBi,hBn] at hmi
   refine wq ?_
   refine oU hF 0 1 (bC (c:=true) (aJ (by omega))) rfl rfl rfl fun a hF=>ns<|wp_cond_true hF.o<|wp_skip<|E.norm<|wp_seq<|wp_block<|wq<|oV hF (dz (hF.at 3 rfl) hF.p (Ef (i:=i) (by omega) (by omega))) rfl fun a hF=>oV hF (ar hF.o (DL (vs:=[iv (moD D i),iv (moD D (i+1)),iv (smV (moD D i)%12),iv (smV (moD D (i+1))%12)]) (st.bk 0 rfl) (FG hD hN (by omega) more) rfl)) rfl fun a hF=>?_
   refine SG.new st hF 0 rfl bN rfl rfl rfl rfl rfl fun g9 w7 a st hF=>?_
   refine nq<|oV hF (ar hF.o (bh bN (st.bk 0 rfl) rfl)) rfl fun a hF=>oV hF (ar (hF.at 11 rfl) (bh aO (st.bk 2 rfl) rfl)) rfl fun a hF=>?_
   refine SG.callx st hF (rgc k98 (aK hF.p hF.o)) (wI (moD D i) (moD D (i+1)) (smV (moD D i)%12) (smV (moD D (i+1))%12) xa xb xc xd _ (hT.below st.bel) (by first|assumption|constructor<;>omega) hmi.1 (by omega) (by omega) rfl Bi Bn hBi hBn) rfl rfl rfl rfl fun w8 a st hF=>?_
   refine oM hF 0 rfl rfl fun a hF=>oV hF (aA (v:= iv Bi) hF.o rfl) rfl fun a hF=>oV hF (aA (v:= iv Bn) hF.p rfl) rfl fun a hF=>oA hF 1 rfl rfl fun a hF=>oA hF 1 rfl rfl fun a hF=>E.nil ?_
   refine E.rg 11 aI hF [32,33,34,35,36,37,38,39,40,41,42] [_,_,_,_,_,_,_,_,.ex (iv (Bn-Bi)),.ex (.agg #[iv ((smV (moD D i)+1)%12+1),.bool (decide (smV (moD D (i+1))=smV (moD D i))),iv Bi,iv (Bn-Bi)]),.of (fun w v=>xq w8.heap.size [iv ((smV (moD D i)+1)%12+1),.bool (decide (smV (moD D (i+1))=smV (moD D i))),iv Bi,iv (Bn-Bi)] w v) xq.mb] (by decide+kernel) rfl rfl rfl ⟨rm 15 rfl,rb st.toSt bN 8 0 rfl,ck st.toSt k99 rfl fun _ s=>bJ (yx (moD D i) _ _ _),rb st.toSt bN 8 0 rfl,ck st.toSt F2 rfl fun _ s=>bJ (xh (moD D i) _ hmi.1),rm 1 rfl,rm 0 rfl,rm 1 rfl,(by intro a' w' hF' hb hd;have e38:=tE hd 0 rfl;have e39:=tE hd 1 rfl;exact dv0 (ao e38 e39 ab (bM (by omega) (by omega))) rfl rfl rfl),(by intro a' w' hF' hb hd;have e34:=tE hd 0 rfl;have e36:=tE hd 1 rfl;have e37:=tE hd 2 rfl;have e40:=tE hd 3 rfl;exact dv0 (bB (mK e34 e36 e37 e40) (uo _ _ _ _ _)) rfl rfl rfl),(by intro a' w' hF' hb hd;have e41:=tE hd 0 rfl;obtain⟨gl,wl,hr,ge,b2,hk⟩:=xg w' _ _ _ _;exact dh (bF rfl) (bA.vals (du (mT e41) hr) ⟨⟨gl,rfl,by rw[<-ge];exact hb.size,hk⟩,b2,(fun h=>absurd h (by decide))⟩)),trivial⟩ ?_
   intro a w9 hF bb hall
   have s0:=st
   replace st:=st.to bb
   replace hF:=rE hall hF 0 rfl rfl
   obtain⟨_,e42,glu10,rfl,geu10,ou10⟩:=sS hall 10 42 rfl rfl
   replace st:=st.push ou10 (Nat.le_trans s0.bel.size geu10) (s0.ne geu10) (s0.away geu10)
   replace hF:=hF.add e42
   clear ou10
   clear hall bb s0
   obtain⟨lau11,lcu11,w12,hr,hpa,gg,bb,ku,hne⟩:=s3 st.g (st.bk 0 rfl) (by omega) st.bel.size
   refine oV hF (bI (aK hF.p hF.o) hr) rfl fun a hF=>?_
   replace st:=st.grow gg bb ku pC hpa cd.gc cd.gl hne
   clear hr gg bb ku hne hpa
   refine oE hF 0 rfl rfl fun a hF=>E.nil0<|E.blk<|E.norm<|E.seq<|oV hF (ao (hF.at 16 rfl) ah ab (aU (by omega) (by omega))) rfl fun a hF=>oS hF (aG hF.o) rfl fun a hF=>E.nil0<|E.norm ?_
   replace hF:Fr 46 a [(22,iv ((i+1:Nat):Int)),(44,iv (((i:Nat):Int)+1)),(7,.slice lau11 (i+1) lcu11),(43,.slice lau11 (i+1) lcu11),(42,.slice (some ⟨glu10,0,none⟩) 1 1),(32,.slice la i lc),(11,iv Bn),(10,iv Bi),(31,iv Bn),(30,iv Bi),(26,.tuple #[iv Bi,iv Bn]),(29,.tuple #[iv Bi,iv Bn]),(28,.agg #[iv xa,iv xb,iv xc,iv xd]),(27,.agg #[iv (moD D i),iv (moD D (i+1)),iv (smV (moD D i)%12),iv (smV (moD D (i+1))%12)]),(9,.pointer (some ⟨g9,0,none⟩)),(25,.agg #[iv (moD D i),iv (moD D (i+1)),iv (smV (moD D i)%12),iv (smV (moD D (i+1))%12)]),(24,.pointer (some ⟨gr,4*i,none⟩)),(23,.bool true),(21,iv ((N:Nat):Int)),(20,.slice (some ⟨gr,0,none⟩) N cap),(5,iv 0),(4,.slice none 0 0),(3,.pointer (some ⟨g3,0,none⟩))]:=by rw[show((i+1:Nat):Int)=((i:Nat):Int)+1 by omega];exact hF
   exact⟨(N-(i+1)),by omega,⟨(i+1),lau11,lcu11,(by omega),Fr.pick (L':=[(22,iv ((i+1:Nat):Int)),(21,iv ((N:Nat):Int)),(20,.slice (some ⟨gr,0,none⟩) N cap),(7,.slice lau11 (i+1) lcu11),(5,iv 0),(4,.slice none 0 0),(3,.pointer (some ⟨g3,0,none⟩))]) hF [0,18,19,2,20,21,22] rfl,((st.pick [2,3] [] rfl rfl (by decide)).cast (by rw[<-hBi,<-hBn];rfl)),rfl⟩⟩
  ·refine wp_seq<|E.seq ?_
   refine oU hF 0 1 (bC (c:=false) (aH (by omega))) rfl rfl rfl fun a hF=>ns<|wp_cond_false hF.o<|wp_exit<|E.past<|E.past<|E.out (id:=0)<|E.norm<|wq ?_
   refine oM hF 4 rfl rfl fun a hF=>oE hF 0 rfl rfl fun a hF=>oS hF (aQ ah) rfl fun a hF=>nr ?_
   have bel:=st.bel
   refine bodyPost_ret (fA Tryz.results43 hF.p hF.o) hF.dfr ?_
   have ei:i=N:=by omega
   subst ei
   exact⟨_,_,rfl,st.g.1,bel⟩
theorem nD {y m:Int} (y0: -8000<=y) (y1:y<=8000) (m0:1<=m) (m1:m<=12): -2950000<=fiE y m/\fiE y m<=2910000:=by
 have e:=GZ y m
 have p0:36525/100<pyr:=by decide+kernel
 have p1:pyr<36526/100:=by decide+kernel
 have a:=Rat.intCast_le_intCast.2 (show 12*(-8000+3044)-1<=12*(y+3044)+m-2 by omega)
 have b:=Rat.intCast_le_intCast.2 (show 12*(y+3044)+m-2<=12*(8000+3044)+10 by omega)
 rw[show((12*(-8000+3044)-1:Int):Rat)= -59473 by decide+kernel] at a
 rw[show((12*(8000+3044)+10:Int):Rat)=132538 by decide+kernel] at b
 generalize ((12*(y+3044)+m-2:Int):Rat)=z at*
 rw[show z/((12:Int):Rat)=z*(1/12) by rw[Rat.div_def,show((12:Int):Rat)⁻¹ =1/12 by decide+kernel],show(((-1132959:Int)):Rat)= -1132959 from rfl] at e
 have f0:=cY (z*(1/12)*pyr+ -1132959)
 have f1:=dr (z*(1/12)*pyr+ -1132959)
 rw[e] at f0 f1
 have u:=Rat.mul_nonneg (a:=132538-z) (b:=pyr) (by grind) (by grind)
 have v:=Rat.mul_nonneg (a:=z+59473) (b:=pyr) (by grind) (by grind)
 constructor
 ·have:(((-2950000:Int)):Rat)<((fiE y m:Int):Rat):=by rw[show(((-2950000:Int)):Rat)= -2950000 from rfl];grind
  have:=Rat.intCast_lt_intCast.1 this
  omega
 ·have:((fiE y m:Int):Rat)<((2910000:Int):Rat):=by rw[show((2910000:Int):Rat)=2910000 from rfl];grind
  have:=Rat.intCast_lt_intCast.1 this
  omega
section
section
end
section
section
variable {P:Program} {w:World}
end
end
section
def asc (ds:List Nat):List Nat:=ds.map (48+ ·)
end
section
end
section
section
variable {P:Program} {ops:Array Oper} {Q:Exit->Act->World->Prop}
end
section
variable {ops:Array Oper} {nt:Nat} {L:List (Nat×Value)} {rval:Nat->Value} {St:List Nat->World->Prop} {ys z1 z2:List Nat} {d:Nat->Bool} {a:Act} {w w':World}
end
end
section
def tx (z:Int):List Nat:=if z=0 then[48] else(if z<0 then[45] else[])++(asc (dg 10 z.natAbs)).reverse
end
section
def cx (q:Rat):List Nat:=if q.den=1 then tx q.num else tx q.num++[47]++tx ((q.den:Nat):Int)
end
section
end
end
def r3 (k:Int):Int:=if k=0 then 1670 else if k=1 then 1795 else 1935
theorem tU (y m:Int) (l:Bool) (xa xb xc xd:Int) (w:World) (hE:eu y m 1 xa xb xc xd≠0):
 CP 49 #[iv y,iv m,.bool l,.agg #[iv xa,iv xb,iv xc,iv xd]] w (fun e w'=>∃ad cap,e= .returned (.tuple #[.slice ad 0 cap,iv (eu y m 1 xa xb xc xd)])/\Below w.heap.size w w'):=by
 have st:=St.start w
 refine E.enter (nt:=37) (L:=[(0,iv y),(1,iv m),(2,.bool l),(3,.agg #[iv xa,iv xb,iv xc,iv xd])]) Tryz.func49 rfl rfl rfl (aX (i:=0) rfl (aX (i:=1) rfl (aX (i:=2) rfl (aX (i:=3) rfl dU)))) ?_
 intro a hF
 refine wq<|bx st hF 3 rfl rfl fun g7 w1 a st hF=>?_
 refine oC hF rfl fun a hF=>oC hF rfl fun a hF=>ns<|wq<|oM hF 3 rfl rfl fun a hF=>oM hF 5 rfl rfl fun a hF=>oV hF (bB (lv hF.p hF.o ah) (oB _ _ _ _)) rfl fun a hF=>oL hF st 5 0 aO rfl rfl rfl rfl fun a hF=>cX st hF (rgc E6 (aK hF.p hF.o)) (qD y m false 1 false xa xb xc xd _) rfl fun w2 a st hF=>?_
 refine oA hF 0 rfl rfl fun a hF=>nq<|oM hF 0 rfl rfl fun a hF=>oT hF 0 (dS (c:=true) (aJ hE)) rfl rfl fun a hF=>E.nil<|wp_cond_true hF.o<|wq ?_
 refine oM hF 2 rfl rfl fun a hF=>oS hF (aQ ah) rfl fun a hF=>oE hF 1 rfl rfl fun a hF=>nr<|E.pastr ?_
 have bel:=st.bel
 refine bodyPost_ret (fA Tryz.results49 hF.p hF.o) hF.dfr ?_
 exact⟨_,_,rfl,bel⟩
section
section
variable {P:Program} {ops:Array Oper} {Q:Exit->Act->World->Prop} {W w:World} {bs:List (Nat×List Value)} {fs:List (World->Prop)} {nt d:Nat} {L:List (Nat×Value)} {rest:List Oper} {a:Act} {T:TypeId} {ty:TypeId} {pos:String} {af:Array Edge}
end
end
theorem yS (wa wb wc wd:Int) (w:World):
 CV 17 #[.agg #[iv wa,iv wb,iv wc,iv wd]] w (.agg #[iv (gA 60 120 wa wb),iv (gB wb),iv (gA 180 360 wc wd),iv (gB wd)]):=by
 refine gs1 (nt:=12) Tryz.func17 rfl rfl rfl fun a st hF=>wq<|bx st hF 0 rfl rfl fun g1 w1 a st hF=>S.alloc st hF aO rfl rfl fun g2 w2 a st hF=>nq<|oV hF (au hF.p (AB (p:=0) rfl)) rfl fun a hF=>oV hF (ar hF.o (bi (v:= iv wa) (st.bk 1 rfl) rfl)) rfl fun a hF=>oV hF (au (hF.at 3 rfl) (Bk (p:=1) rfl)) rfl fun a hF=>oV hF (ar hF.o (bi (v:= iv wb) (st.bk 1 rfl) rfl)) rfl fun a hF=>oV hF (au (hF.at 5 rfl) (BQ (p:=2) rfl)) rfl fun a hF=>oV hF (ar hF.o (bi (v:= iv wc) (st.bk 1 rfl) rfl)) rfl fun a hF=>oV hF (au (hF.at 7 rfl) (Aj (p:=3) rfl)) rfl fun a hF=>?_
 refine oV hF (ar hF.o (bi (v:= iv wd) (st.bk 1 rfl) rfl)) rfl fun a hF=>cX st hF (rgc k53 (pW (hF.at 6 rfl) (hF.at 4 rfl) hF.q hF.o)) (Bs wa wb wc wd _) rfl fun w3 a st hF=>?_
 have hg1:=kN wb
 have hg2:=p7 wa wb
 have hg3:=kN wd
 have hg4:=pK wc wd
 have hok9250:=pB wa wb wc wd
 refine S.stoI st hF 0 rfl (hF.at 9 rfl) hF.o aO rfl rfl rfl fun w4 a st hF=>nr<|rs Tryz.results17 st hF 9 0 aO rfl rfl rfl ?_
 exact⟨rfl,st.bel⟩
theorem oh {wa wb wc wd pa pb pc pd:Int} (w:World) (ha:gA 60 120 wa wb=pa) (hb:gB wb=pb) (hc:gA 180 360 wc wd=pc) (hd:gB wd=pd):CV 17 #[.agg #[iv wa,iv wb,iv wc,iv wd]] w (.agg #[iv pa,iv pb,iv pc,iv pd]):=by
 subst ha hb hc hd
 exact yS wa wb wc wd w
theorem HH {P:Program} {w:World} {t:TypeId} {r z:Int} (h:r%4=z):(binOp .and t (iv r) (iv 3)).run P w= .ok (iv z) w:=by
 subst h
 exact jv (n:=2) (by decide) (d:=4) (by decide) (by decide)
theorem jU (w:World) (hT:aY w):
 CV 38 #[] w (.bool true):=by
 refine gs0 (nt:=32) Tryz.func38 rfl rfl fun a st hF=>wq ?_
 refine oC hF rfl fun a hF=>nq<|cX st hF (rgc k90 iI) (mC _) rfl fun w1 a st hF=>?_
 refine E.call hF (rgc k46 (gR ah ah hF.o)) (sC 4 0 463 20 45461 600 _ (by decide)) rfl rfl rfl rfl ?_
 rintro e w2 ⟨ad3,cap4,rfl,bb⟩
 refine⟨_,rfl,?_⟩
 intro a hF
 replace st:=st.to bb
 clear bb
 refine oM hF 0 rfl rfl fun a hF=>oV hF (aA (v:= .slice ad3 0 cap4) hF.o rfl) rfl fun a hF=>oV hF (aA (v:= iv 6) hF.p rfl) rfl fun a hF=>oA hF 1 rfl rfl fun a hF=>oA hF 1 rfl rfl fun a hF=>nq<|cX st hF (rgc k90 iI) (mC _) rfl fun w5 a st hF=>?_
 refine E.call hF (rgc k43 (aK ah hF.o)) (tr 9001 463 20 45461 600 _ (by decide+kernel)) rfl rfl rfl rfl ?_
 rintro e w6 ⟨ad7,cap8,rfl,bb⟩
 refine⟨_,rfl,?_⟩
 intro a hF
 replace st:=st.to bb
 clear bb
 refine oM hF 0 rfl rfl fun a hF=>oV hF (aA (v:= .slice ad7 0 cap8) hF.o rfl) rfl fun a hF=>oV hF (aA (v:= iv (eu 9001 1 1 463 20 45461 600)) hF.p rfl) rfl fun a hF=>oA hF 1 rfl rfl fun a hF=>oA hF 1 rfl rfl fun a hF=>nq<|cX st hF (rgc k90 iI) (mC _) rfl fun w9 a st hF=>?_
 refine E.call hF (rgc k49 (pW ah ah ah hF.o)) (tU 0 13 false 463 20 45461 600 _ (by decide+kernel)) rfl rfl rfl rfl ?_
 rintro e w10 ⟨ad11,cap12,rfl,bb⟩
 refine⟨_,rfl,?_⟩
 intro a hF
 replace st:=st.to bb
 clear bb
 refine oM hF 0 rfl rfl fun a hF=>oV hF (aA (v:= .slice ad11 0 cap12) hF.o rfl) rfl fun a hF=>oV hF (aA (v:= iv (eu 0 13 1 463 20 45461 600)) hF.p rfl) rfl fun a hF=>oA hF 1 rfl rfl fun a hF=>oA hF 1 rfl rfl fun a hF=>nq<|oM hF 14 rfl rfl fun a hF=>oT hF 0 (bq (c:=true) (by decide)) rfl rfl fun a hF=>oM hF 0 rfl rfl fun a hF=>og hF (aG (hF.at 10 rfl)) 0 rfl rfl rfl fun a hF=>og hF (ao hF.o ah ab (aL (bq (c:=true) (aJ (by decide+kernel))) (by simp))) 1 rfl rfl rfl fun a hF=>oV hF (aV hF.q hF.o) rfl fun a hF=>oM hF 0 rfl rfl fun a hF=>?_
 refine og hF (aG (hF.at 7 rfl)) 0 rfl rfl rfl fun a hF=>og hF (ao hF.o ah ab (aL (bq (c:=true) (aJ (by decide+kernel))) (by simp))) 1 rfl rfl rfl fun a hF=>oV hF (aV hF.q hF.o) rfl fun a hF=>oE hF 0 rfl rfl fun a hF=>nr ?_
 have bel:=st.bel
 refine rt Tryz.results38 hF 0 rfl ?_
 exact⟨rfl,bel⟩
theorem rO {a b c d k L B M:Int} (e:k=L) (hB:beV a b c d L=B) (hM:beV a b c d (az L)=M):hdC a b c d k=[iv ((smV L+1)%12+1),.bool (decide (smV (az L)=smV L)),iv B,iv (M-B)]:=by
 subst e hB hM
 rfl
end Go.Proofs.YtgdpkknapcgcbaaGreatDoor
