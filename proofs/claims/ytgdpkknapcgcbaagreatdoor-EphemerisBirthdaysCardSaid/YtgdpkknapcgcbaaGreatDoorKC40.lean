import Derived.Test.YtgdpkknapcgcbaaGreatDoorKC39
namespace Go.Proofs.YtgdpkknapcgcbaaGreatDoor
open Go.RowKit
set_option maxRecDepth 100000
set_option linter.unusedVariables false
set_option maxHeartbeats 8000000
section
section
variable {P:Program} {ops:Array Oper} {Q:Exit->Act->World->Prop} {W w:World} {bs:List (Nat×List Value)} {fs:List (World->Prop)} {nt d:Nat} {L:List (Nat×Value)} {rest:List Oper} {a:Act} {T:TypeId} {ty:TypeId} {pos:String} {af:Array Edge}
theorem SU {Hs:List (World->Value->Prop)} {al:List Nat} {i:Nat} {N:Prop} {w':World} {B:Nat} (hz:(P.info? T).bind (·.zero)=some (iv 0)) (hB:B<=w'.heap.size) (hH:Hs[i]?=some fun w v=>∃g,v= .pointer (some ⟨g,0,none⟩)/\B<=g/\Blk w g [iv 0]):
 if Region.wanted ⟨some d,.alloc T,ty,pos,af,none⟩ (yielded ops a.tmps)=true then bG P Q ⟨some d,.alloc T,ty,pos,af,none⟩ a w' (fun v w''=>Hat Hs i w'' v/\Below w'.heap.size w' w''/\(al.contains i=true->v= .pointer (some ⟨w'.heap.size,0,none⟩))) else N:=by
 obtain⟨g,w2,ge,hr,bb,on⟩:=jI (P:=P) (w:=w') (cs:=[iv 0]) (v:= iv 0) T hz rfl
 subst ge
 exact bX (aR rfl) (bG.vals (dP hr) ⟨by unfold Hat;rw[hH];exact⟨_,rfl,hB,on⟩,bb,fun _=>rfl⟩)
theorem S.stoZ {g:Nat} {z u:Int} {x y:Operand} (st:St W w bs fs) (hF:Fr nt a L) (i:Nat) (hb:bs[i]?=some (g,[iv z])) (hU:∀F∈fs,ClU F) (he:a.eval x= .pointer (some ⟨g,0,none⟩)) (hv:a.eval y= iv u) (hs:(P.info? T).map (·.size)=some 1)
 (k:∀w' a',St W w' (bs.set i (g,[iv u])) fs->Fr nt a' L->wpS P ops Q rest a' w'):wpS P ops Q (⟨none,.store T x y,ty,pos,af,none⟩::rest) a w:=by
 obtain⟨w1,hr,tu,on⟩:=iL (P:=P) (o:=0) (vs:=[iv u]) (ws:=[iv u]) (st.bk i hb) hs rfl rfl (by intro v hv;rw[List.mem_singleton] at hv;subst hv;rfl) rfl
 exact E.st hF (cT he hv (hr _ rfl)) rfl rfl fun a' hF'=>k w1 a' (st.setU2 i hb rfl hU tu on) hF'
end
theorem Ky:(Tryz.f115.name == "runtime.NumGoroutine")=false/\Tryz.f115.body.isNone=false:=⟨by decide+kernel,by kernel_rfl⟩
theorem It (h B x xa xb xc xd:Int) (g0 g1 g2:Nat) (w:World) (hT:bE w) (hok:bN xa xb xc xd) (hh0: -3800000<=B+h) (hh1:B+h<=3800000) (h0:Blk w g0 [iv B]) (h1:Blk w g1 [iv xa,iv xb,iv xc,iv xd]) (h2:Blk w g2 [iv x]):
 CV 115 #[iv h,.pointer (some ⟨g0,0,none⟩),.pointer (some ⟨g1,0,none⟩),.pointer (some ⟨g2,0,none⟩)] w (.bool (decide (x<=amX (B+h) xa xb xc xd%30+1))):=by
 have st:=St.start w
 refine E.enter (nt:=13) (L:=[(0,iv h),(1,.pointer (some ⟨g0,0,none⟩)),(2,.pointer (some ⟨g1,0,none⟩)),(3,.pointer (some ⟨g2,0,none⟩))]) Tryz.func115 rfl rfl rfl (aC (i:=0) rfl (aC (i:=1) rfl (aC (i:=2) rfl (aC (i:=3) rfl cC)))) ?_
 intro a hF
 refine wq ?_
 refine oC hF rfl fun a hF=>ns ?_
 refine E.rg 6 aM hF [6,7,8,9,10,11] [_,_,.ex (iv (B+h)),_,_,_] (by decide+kernel) rfl rfl rfl ⟨rd rfl rfl fun a' w' hF' hb=>(ar (hF'.at 2 rfl) (bl (v:= iv B) (h0.below (aF st.bel hb)) rfl)),rm 1 rfl,(by intro a' w' hF' hb hd;have e6:=tE hd 0 rfl;have e7:=tE hd 1 rfl;exact dv0 (aq e6 e7 aa (aX (by omega) (by omega))) rfl rfl rfl),rd rfl rfl fun a' w' hF' hb=>(ar (hF'.at 3 rfl) (vR (vs:=[iv xa,iv xb,iv xc,iv xd]) (h1.below (aF st.bel hb)) rfl rfl)),ck st k32 rfl fun _ s=>bD (lh (B+h) xa xb xc xd (amX (B+h) xa xb xc xd) _ (hT.below s.bel) (by first|assumption|constructor<;>omega) (by omega) (by omega) rfl),rd rfl rfl fun a' w' hF' hb=>(ar (hF'.at 4 rfl) (bQ (v:= iv x) (h2.below (aF st.bel hb)) rfl)),trivial⟩ ?_
 intro a w1 hF bb hall
 replace st:=st.to bb
 replace hF:=rE hall hF 4 rfl rfl
 replace hF:=rE hall hF 5 rfl rfl
 clear hall bb
 refine oU hF 1 0 (dI (c:=decide (x<=amX (B+h) xa xb xc xd%30+1)) rfl) rfl rfl rfl fun a hF=>oE hF 0 rfl rfl fun a hF=>nr ?_
 have bel:=st.bel
 refine rt Tryz.results115 hF 0 rfl ?_
 exact⟨rfl,bel⟩
theorem QL (B x xa xb xc xd M:Int) (g0 g1 g2:Nat) (w:World) (hT:bE w) (hok:bN xa xb xc xd) (hb0: -3700000<=B) (hb1:B<=3700000) (hm:M<=100) (h0:Blk w g0 [iv B]) (h1:Blk w g1 [iv xa,iv xb,iv xc,iv xd]) (h2:Blk w g2 [iv x]):zE w 115 #[.pointer (some ⟨g0,0,none⟩),.pointer (some ⟨g1,0,none⟩),.pointer (some ⟨g2,0,none⟩)] M (fun h=>decide (x<=amX (B+h) xa xb xc xd%30+1)):=
 ⟨⟨_,Tryz.func115,Ky.1,Ky.2⟩,fun h w' hb a b=>It h B x xa xb xc xd g0 g1 g2 w' (hT.below hb) hok (by omega) (by omega) (h0.below hb) (h1.below hb) (h2.below hb)⟩
theorem yL (y m x xa xb xc xd:Int) (w:World) (e:Int) (hE:ff y m x xa xb xc xd=e) (he:e≠0):
 CV 51 #[iv y,iv m,iv x,.agg #[iv xa,iv xb,iv xc,iv xd]] w (.tuple #[iv (0),iv (e)]):=by
 have st:=St.start w
 refine E.enter (nt:=54) (L:=[(0,iv y),(1,iv m),(2,iv x),(3,.agg #[iv xa,iv xb,iv xc,iv xd])]) Tryz.func51 rfl rfl rfl (aC (i:=0) rfl (aC (i:=1) rfl (aC (i:=2) rfl (aC (i:=3) rfl cC)))) ?_
 intro a hF
 refine wq ?_
 refine S.boxI st hF hF.q rfl rfl fun g6 w1 a st hF=>?_
 refine bx st hF 4 rfl rfl fun g7 w2 a st hF=>?_
 refine oC hF rfl fun a hF=>oC hF rfl fun a hF=>ns<|wq<|oM hF 4 rfl rfl fun a hF=>oM hF 6 rfl rfl fun a hF=>oV hF (ar (hF.at 5 rfl) (bQ (v:= iv x) (st.bk 1 rfl) rfl)) rfl fun a hF=>oV hF (bn (lX hF.q hF.p hF.o) (gj _ _ _ _)) rfl fun a hF=>oL hF st 6 0 be rfl rfl rfl rfl fun a hF=>cX st hF (rgc rf (aL hF.p hF.o)) (hO y m false x false xa xb xc xd _) rfl fun w3 a st hF=>?_
 refine oA hF 0 rfl rfl fun a hF=>nq<|oM hF 0 rfl rfl fun a hF=>oT hF 0 (db (c:=true) (aI (by rw[hE];exact he))) rfl rfl fun a hF=>E.nil<|wp_cond_true hF.o<|wq ?_
 refine oM hF 2 rfl rfl fun a hF=>oS hF (aZ ao) rfl fun a hF=>oE hF 1 rfl rfl fun a hF=>nr ?_
 have bel:=st.bel
 refine bodyPost_ret (eJ Tryz.results51 hF.p hF.o) hF.dfr ?_
 exact⟨by rw[hE],bel⟩
theorem iW (y m x xa xb xc xd:Int) (w:World) (hT:bE w) (hok:bN xa xb xc xd) (hy0: -9000<=y) (hy1:y<=9000) (hm0:1<=m) (hm1:m<=12) (hx0:1<=x) (hx1:x<=30) (hn:(fiL y m).length =0):
 CV 51 #[iv y,iv m,iv x,.agg #[iv xa,iv xb,iv xc,iv xd]] w (.tuple #[iv (0),iv (3)]):=by
 have hma:ff y m x xa xb xc xd=0:=ux (rK hok) (by omega) (by omega)
 have hM0:=hn
 have st:=St.start w
 refine E.enter (nt:=54) (L:=[(0,iv y),(1,iv m),(2,iv x),(3,.agg #[iv xa,iv xb,iv xc,iv xd])]) Tryz.func51 rfl rfl rfl (aC (i:=0) rfl (aC (i:=1) rfl (aC (i:=2) rfl (aC (i:=3) rfl cC)))) ?_
 intro a hF
 refine wq ?_
 refine S.boxI st hF hF.q rfl rfl fun g6 w1 a st hF=>?_
 refine bx st hF 4 rfl rfl fun g7 w2 a st hF=>?_
 refine oC hF rfl fun a hF=>oC hF rfl fun a hF=>ns<|wq<|oM hF 4 rfl rfl fun a hF=>oM hF 6 rfl rfl fun a hF=>oV hF (ar (hF.at 5 rfl) (bQ (v:= iv x) (st.bk 1 rfl) rfl)) rfl fun a hF=>oV hF (bn (lX hF.q hF.p hF.o) (gj _ _ _ _)) rfl fun a hF=>oL hF st 6 0 be rfl rfl rfl rfl fun a hF=>cX st hF (rgc rf (aL hF.p hF.o)) (hO y m false x false xa xb xc xd _) rfl fun w3 a st hF=>?_
 refine oA hF 0 rfl rfl fun a hF=>nq<|oM hF 0 rfl rfl fun a hF=>oT hF 0 (db (c:=false) (aJ (fun e=>e hma))) rfl rfl fun a hF=>E.nil<|wp_cond_false hF.o<|wp_skip<|E.norm<|wq<|oM hF 13 rfl rfl fun a hF=>oM hF 15 rfl rfl fun a hF=>?_
 refine E.call hF (rgc yR (aL hF.p hF.o)) (iT y m _ (hT.below st.bel) (by omega) (by omega) (by omega) (by omega)) rfl rfl rfl rfl ?_
 rintro e w4 ⟨ad0,cap0,rfl,_,bb⟩
 refine⟨_,rfl,?_⟩
 intro a hF
 rw[hM0] at hF
 replace st:=st.to bb
 clear bb
 refine oA hF 0 rfl rfl fun a hF=>ns<|wq<|oM hF 0 rfl rfl fun a hF=>oV hF (aW (aG hF.o) iY) rfl fun a hF=>oT hF 0 (aV (c:=true) (aI (by decide))) rfl rfl fun a hF=>E.nil<|wp_cond_true hF.o<|wq ?_
 refine oS hF (aZ ao) rfl fun a hF=>oS hF (aZ ao) rfl fun a hF=>nr ?_
 have bel:=st.bel
 refine bodyPost_ret (eJ Tryz.results51 hF.p hF.o) hF.dfr ?_
 exact⟨rfl,bel⟩
theorem gE (y m x xa xb xc xd:Int) (w:World) (hT:bE w) (hok:bN xa xb xc xd) (hy0: -9000<=y) (hy1:y<=9000) (hm0:1<=m) (hm1:m<=12) (hx0:1<=x) (hx1:x<=30) (L n:Int) (hc:aN L=true) (hs:smV L=fiS y m) (hl:smV (aw L)≠smV L) (hn:feV xa xb xc xd (30*aP (L+1)+(x-1))=n) (hn0: -3000000<=n) (hn1:n<=3000000):
 CV 51 #[iv y,iv m,iv x,.agg #[iv xa,iv xb,iv xc,iv xd]] w (.tuple #[iv (n),iv (0)]):=by
 have hma:ff y m x xa xb xc xd=0:=ux (rK hok) (by omega) (by omega)
 obtain⟨M0,hM0⟩:∃z,(fiL y m).length =z:=⟨_,rfl⟩
 have hM2:=vH y m
 rw[hM0] at hM2
 obtain⟨j0,hj0,ej⟩:=sE hc hs
 rw[hM0] at hj0
 have hlast:fiD y m (M0-1)=L:=by have q:=Hn (y:=y) (m:=m) (i:=j0) (by omega);rw[<-ej] at q;have sn:=gS hc;have e:j0=M0-1:=(by omega);rw[<-e];exact ej.symm
 have hfe:=ju hy0 hy1 hm0 hm1
 have hfd:=AA (y:=y) (m:=m) (i:=M0-1) (by omega)
 obtain⟨B,hB⟩:∃z:Int,beV xa xb xc xd L=z:=⟨_,rfl⟩
 obtain⟨B2,hB2⟩:∃z:Int,beV xa xb xc xd (aw L)=z:=⟨_,rfl⟩
 have hbl:=pf hok hc (x:=x) (by omega) (by omega)
 rw[hn,hB,hB2] at hbl
 have hbn:=fj hok hc
 rw[hB] at hbn
 have hbd:=gJ hok hc
 rw[hB,hB2] at hbd
 have hfl:fiE y m-4<=L/\L<=fiE y m+35:=fw hs
 have st:=St.start w
 refine E.enter (nt:=54) (L:=[(0,iv y),(1,iv m),(2,iv x),(3,.agg #[iv xa,iv xb,iv xc,iv xd])]) Tryz.func51 rfl rfl rfl (aC (i:=0) rfl (aC (i:=1) rfl (aC (i:=2) rfl (aC (i:=3) rfl cC)))) ?_
 intro a hF
 refine wq ?_
 refine S.boxI st hF hF.q rfl rfl fun g6 w1 a st hF=>?_
 refine bx st hF 4 rfl rfl fun g7 w2 a st hF=>?_
 refine oC hF rfl fun a hF=>oC hF rfl fun a hF=>ns<|wq<|oM hF 4 rfl rfl fun a hF=>oM hF 6 rfl rfl fun a hF=>oV hF (ar (hF.at 5 rfl) (bQ (v:= iv x) (st.bk 1 rfl) rfl)) rfl fun a hF=>oV hF (bn (lX hF.q hF.p hF.o) (gj _ _ _ _)) rfl fun a hF=>oL hF st 6 0 be rfl rfl rfl rfl fun a hF=>cX st hF (rgc rf (aL hF.p hF.o)) (hO y m false x false xa xb xc xd _) rfl fun w3 a st hF=>?_
 refine oA hF 0 rfl rfl fun a hF=>nq<|oM hF 0 rfl rfl fun a hF=>oT hF 0 (db (c:=false) (aJ (fun e=>e hma))) rfl rfl fun a hF=>E.nil<|wp_cond_false hF.o<|wp_skip<|E.norm<|wq<|oM hF 13 rfl rfl fun a hF=>oM hF 15 rfl rfl fun a hF=>?_
 refine E.call hF (rgc yR (aL hF.p hF.o)) (iT y m _ (hT.below st.bel) (by omega) (by omega) (by omega) (by omega)) rfl rfl rfl rfl ?_
 rintro e w4 ⟨_,capp,rfl,hia,bb⟩
 refine⟨_,rfl,?_⟩
 intro a hF
 rw[hM0] at hia hF
 obtain⟨gr,morep,rfl,_,hge,hbk⟩:=hia.row (by omega)
 replace st:=(st.to bb).push hbk (Nat.le_trans st.bel.size hge) (st.ne hge)
 clear hia bb hbk hge
 refine oA hF 0 rfl rfl fun a hF=>ns<|wq<|oM hF 0 rfl rfl fun a hF=>oV hF (aW (aG hF.o) iY) rfl fun a hF=>oT hF 0 (aV (c:=false) (aJ (by omega))) rfl rfl fun a hF=>E.nil<|wp_cond_false hF.o<|wp_skip<|E.norm ?_
 refine E.mid (I:=fun a wv=>∃(g12:Nat),Fr 54 a [(12,.pointer (some ⟨g12,0,none⟩)),(13,iv B2),(27,.slice (some ⟨gr,0,none⟩) M0 capp),(9,iv 0),(8,iv 0),(7,.pointer (some ⟨g7,0,none⟩)),(6,.pointer (some ⟨g6,0,none⟩))]/\St w wv [(g12,[iv B]),(gr,iJ (fiL y m)++morep),(g7,[iv xa,iv xb,iv xc,iv xd]),(g6,[iv x])] []) ?_ ?_
 ·refine E.drawnL 12 10 aM hF [32,33,34,35,36,37,38,39,31,40,41,12] [(fun _ v=>v= .slice (some ⟨gr,0,none⟩) M0 capp),(fun _ v=>v= .slice (some ⟨gr,0,none⟩) M0 capp),(fun _ v=>v= iv ((M0:Nat):Int)),(fun _ v=>v= iv (((M0:Nat):Int)-1)),(fun _ v=>v= .pointer (some ⟨gr,4*(M0-1),none⟩)),(fun _ v=>v= .agg #[iv (fiD y m (M0-1)),iv (aw (fiD y m (M0-1))),iv (smV (fiD y m (M0-1))%12),iv (smV (aw (fiD y m (M0-1)))%12)]),(fun _ v=>v= .agg #[iv xa,iv xb,iv xc,iv xd]),(fun _ v=>v= .tuple #[iv B,iv B2]),(fun _ v=>v= .tuple #[iv B,iv B2]),(fun _ v=>v= iv B),(fun _ v=>v= iv B2),(fun w v=>∃g,v= .pointer (some ⟨g,0,none⟩)/\w4.heap.size<=g/\Blk w g [iv 0])] [11] (by decide+kernel) rfl rfl ⟨(Mb.eq _),(Mb.eq _),(Mb.eq _),(Mb.eq _),(Mb.eq _),(Mb.eq _),(Mb.eq _),(Mb.eq _),(Mb.eq _),(Mb.eq _),(Mb.eq _),(fun _ _ _ ⟨g,e,l,o⟩ hb=>⟨g,e,l,o.below hb⟩),trivial⟩ ⟨fun _ _ ⟨g,e,_,o⟩=>⟨g,e,o.lt⟩,trivial⟩ rfl rfl ⟨?_,?_,?_,?_,?_,?_,?_,?_,?_,?_,?_,?_,trivial⟩ ?_ ?_
  ·exact qM 3 rfl rfl rfl
  ·exact qM 3 rfl rfl rfl
  ·intro a' w' hF' hb hd
   have e33:=tE hd 0 rfl
   exact dv0 (aW (aG e33) iY) rfl rfl rfl
  ·intro a' w' hF' hb hd
   have e34:=tE hd 0 rfl
   exact dv0 (aq e34 ao aa (bB (by omega) (by omega))) rfl rfl rfl
  ·intro a' w' hF' hb hd
   have e32:=tE hd 0 rfl
   have e35:=tE hd 1 rfl
   exact dv0 (bS e32 e35 (oe (i:=(M0-1)) (by omega) (by omega))) rfl rfl rfl
  ·intro a' w' hF' hb hd
   have e36:=tE hd 0 rfl
   exact dv0 (ar e36 (jn (vs:=[iv ((fiD y m (M0-1))),iv (aw (fiD y m (M0-1))),iv (smV (fiD y m (M0-1))%12),iv (smV (aw (fiD y m (M0-1)))%12)]) ((st.bk 0 rfl).below hb) (oF (fiL y m) morep (by omega)) rfl)) rfl rfl rfl
  ·exact qL st 18 1 be rfl rfl rfl rfl rfl
  ·intro a' w' hF' hb hd
   have e37:=tE hd 0 rfl
   have e38:=tE hd 1 rfl
   exact Sw (rk Sy (aL e37 e38)) (pV (fiD y m (M0-1)) (aw (fiD y m (M0-1))) (smV (fiD y m (M0-1))%12) (smV (aw (fiD y m (M0-1)))%12) xa xb xc xd _ (hT.below (aF st.bel hb)) (by first|assumption|constructor<;>omega) (by rw[hlast];exact hc) (by omega) (by omega) rfl B B2 (by rw[hlast];exact hB) (by rw[hlast];exact hB2)) (fun _=>rfl) rfl rfl
  ·intro a' w' hF' hb hd
   have e39:=tE hd 0 rfl
   exact dv0 (aD e39) rfl rfl rfl
  ·intro a' w' hF' hb hd
   have e31:=tE hd 0 rfl
   exact dv0 (aH (v:= iv B) e31 rfl) rfl rfl rfl
  ·intro a' w' hF' hb hd
   have e31:=tE hd 0 rfl
   exact dv0 (aH (v:= iv B2) e31 rfl) rfl rfl rfl
  ·intro a' w' hF' hb hd
   exact SU PI hb.size rfl
  ·intro a w5 hF bb hall hne
   have s0:=st
   replace st:=st.to bb
   obtain⟨_,ep,g12,rfl,ge,og⟩:=sS hall 11 12 rfl rfl
   replace st:=st.push og (Nat.le_trans s0.bel.size ge) (s0.ne ge)
   have ed:=sSe hall 9 40 rfl rfl
   replace hF:=(hF.add ep).add ed
   have el:=sSe hall 10 41 rfl rfl
   replace hF:=hF.add el
   clear hall hne bb s0 og ge
   refine S.stoZ st hF 0 rfl tY hF.q hF.p dz fun w6 a st hF=>?_
   refine oA hF 0 rfl rfl fun a hF=>E.nil0<|E.norm ?_
   exact⟨g12,Fr.pick (L':=[(12,.pointer (some ⟨g12,0,none⟩)),(13,iv B2),(27,.slice (some ⟨gr,0,none⟩) M0 capp),(9,iv 0),(8,iv 0),(7,.pointer (some ⟨g7,0,none⟩)),(6,.pointer (some ⟨g6,0,none⟩))]) hF [3,0,8,20,21,22,23] rfl,st.pick [0,1,2,3] [] rfl rfl (by decide)⟩
  ·intro a w7 hF bb hall hne
   have s0:=st
   replace st:=st.to bb
   obtain⟨_,ep,g12,rfl,ge,og⟩:=sS hall 11 12 rfl rfl
   replace st:=st.push og (Nat.le_trans s0.bel.size ge) (s0.ne ge)
   have ed:=sSe hall 9 40 rfl rfl
   replace hF:=(hF.add ep).add ed
   have el:=sSe hall 8 31 rfl rfl
   replace hF:=hF.add el
   clear hall hne bb s0 og ge
   refine S.stoZ st hF 0 rfl tY hF.q hF.p dz fun w8 a st hF=>?_
   refine oV hF (aH (v:= iv B2) hF.o rfl) rfl fun a hF=>oA hF 0 rfl rfl fun a hF=>E.nil0<|E.norm ?_
   exact⟨g12,Fr.pick (L':=[(12,.pointer (some ⟨g12,0,none⟩)),(13,iv B2),(27,.slice (some ⟨gr,0,none⟩) M0 capp),(9,iv 0),(8,iv 0),(7,.pointer (some ⟨g7,0,none⟩)),(6,.pointer (some ⟨g6,0,none⟩))]) hF [4,0,9,21,22,23,24] rfl,st.pick [0,1,2,3] [] rfl rfl (by decide)⟩
 ·rintro a w9 ⟨g12,hF,st⟩
  refine wq<|oM hF 1 rfl rfl fun a hF=>oV hF (ar hF.p (bl (v:= iv B) (st.bk 0 rfl) rfl)) rfl fun a hF=>oV hF (aq hF.p hF.o aa (bB (by omega) (by omega))) rfl fun a hF=>oV hF (pv fR (vo (hF.at 3 rfl) (hF.at 8 rfl) (hF.at 9 rfl))) rfl fun a hF=>cX st hF (rgc Sl (aL hF.p hF.o)) (Eb (B2-B) (n-B) _ _ (fun h=>decide (x<=amX (B+h) xa xb xc xd%30+1)) _ (by omega) (by omega) (by omega) (fun h h0 h1=>by show(decide (x<=amX (B+h) xa xb xc xd%30+1)=true)↔n-B<=h;rw[decide_eq_true_iff];have hbd:=Gz hok hc (t:=B+h) x (by omega) (by omega);rw[hn] at hbd;omega) (QL B x xa xb xc xd (B2-B) _ _ _ _ (hT.below st.bel) (by first|assumption|constructor<;>omega) (by omega) (by omega) (by omega) (st.bk 0 rfl) (st.bk 2 rfl) (st.bk 3 rfl))) rfl fun w10 a st hF=>?_
  refine oA hF 0 rfl rfl fun a hF=>nq<|oV hF (ar (hF.at 6 rfl) (bl (v:= iv B) (st.bk 0 rfl) rfl)) rfl fun a hF=>oM hF 1 rfl rfl fun a hF=>oV hF (aq hF.p hF.o aa (aX (by omega) (by omega))) rfl fun a hF=>oA hF 0 rfl rfl fun a hF=>?_
  replace hF:Fr 54 a [(15,iv n),(49,iv n),(48,iv (n-B)),(47,iv B),(14,iv (n-B)),(46,iv (n-B)),(45,.func (.func 115) #[] #[.pointer (some ⟨g12,0,none⟩),.pointer (some ⟨g7,0,none⟩),.pointer (some ⟨g6,0,none⟩)]),(44,iv (B2-B)),(43,iv B),(42,iv B2),(12,.pointer (some ⟨g12,0,none⟩)),(13,iv B2),(27,.slice (some ⟨gr,0,none⟩) M0 capp),(9,iv 0),(8,iv 0),(7,.pointer (some ⟨g7,0,none⟩)),(6,.pointer (some ⟨g6,0,none⟩))]:=by rw[show B+(n-B)=n by omega] at hF;skip;exact hF
  refine ns<|wq<|oM hF 0 rfl rfl fun a hF=>cX st hF (rgc k54 (aG hF.o)) (IJ n _ (by omega) (by omega)) rfl fun w11 a st hF=>oV hF (dF hF.o (cO _ false rfl)) rfl fun a hF=>E.nil<|wp_cond_false hF.o<|wp_skip<|E.norm<|wq ?_
  refine oM hF 3 rfl rfl fun a hF=>oE hF 0 rfl rfl fun a hF=>oS hF (aZ ao) rfl fun a hF=>nr ?_
  have bel:=st.bel
  refine bodyPost_ret (eJ Tryz.results51 hF.p hF.o) hF.dfr ?_
  exact⟨rfl,bel⟩
end
theorem yH (z0 xa xb xc xd:Int) (v1:Value) (w:World) (ho:RPl w v1 (((xa:Int):Rat)/((xb:Int):Rat)) (((xc:Int):Rat)/((xd:Int):Rat)) 2) (hok:bN xa xb xc xd) (hc:aN z0=true) (hz0: -3800000<=z0) (hz1:z0<=3800000) (B:Int) (hB:beV xa xb xc xd z0=B):
 CV 42 #[iv z0,v1] w (iv B):=by
 obtain⟨bpx,adpx,npx,cpx,aepx,mpx,dpx,bpy,adpy,npy,cpy,aepy,mpy,dpy,rfl,hpx,hpy⟩:=RPl.shape ho
 have ho:RPl w (.agg #[.bool bpx,.slice adpx npx cpx,.slice aepx mpx dpx,.bool bpy,.slice adpy npy cpy,.slice aepy mpy dpy]) (((xa:Int):Rat)/((xb:Int):Rat)) (((xc:Int):Rat)/((xd:Int):Rat)) 2:=⟨_,_,_,_,_,_,_,_,_,_,_,_,_,_,rfl,hpx,hpy⟩
 have hbi:=fun t=>ri hok hc t
 have hbn:=fj hok hc
 rw[hB] at hbn
 simp only [hB] at hbi
 refine gs2 (nt:=24) Tryz.func42 rfl rfl rfl fun a st hF=>wq<|bx st hF 1 rfl rfl fun g3 w1 a st hF=>?_
 refine oC hF rfl fun a hF=>nq ?_
 refine oM hF 2 rfl rfl fun a hF=>oV hF (aq hF.o ao aa (bB (by omega) (by omega))) rfl fun a hF=>oA hF 0 rfl rfl fun a hF=>ns<|wq<|oC hF rfl fun a hF=>E.nil<|wp_block ?_
 refine E.loop (fun mq a wv=>∃(t:Int) (j:Int),t=z0-3+j/\0<=j/\j<=8/\t<=B/\Fr 24 a [(6,iv j),(5,iv t),(4,iv 0),(3,.pointer (some ⟨g3,0,none⟩)),(0,iv z0)]/\St w wv [(g3,[.bool bpx,.slice adpx npx cpx,.slice aepx mpx dpx,.bool bpy,.slice adpy npy cpy,.slice aepy mpy dpy])] []/\mq=(8-j:Int).toNat) ((8-(0):Int).toNat) ?_ ?_
 ·exact⟨(z0-3:Int),(0:Int),(by omega),(by omega),(by omega),(by omega),Fr.pick (L':=[(6,iv 0),(5,iv (z0-3)),(4,iv 0),(3,.pointer (some ⟨g3,0,none⟩)),(0,iv z0)]) hF [0,1,4,5,6] rfl,st.pick [0] [] rfl rfl (by decide),rfl⟩
 ·rintro mq a w2 ⟨t,j,ht0,hj0,hj8,ht1,hF,st,hm⟩
  refine wp_seq<|wq<|oM hF 0 rfl rfl fun a hF=>?_
  by_cases hc3:j<8
  ·first
   |(exfalso;omega)
   |(refine oT hF 0 (aY (c:=true) (aI hc3)) rfl rfl fun a hF=>?_
     refine oM hF 0 rfl rfl fun a hF=>og hF (aD (hF.at 4 rfl)) 0 rfl rfl rfl fun a hF=>og hF (ar (hF.at 7 rfl) (bK oO (st.bk 0 rfl) rfl)) 1 rfl rfl rfl fun a hF=>?_
     refine S.ckg st hF (au rfl rfl hF.q rfl) (rgc k22 (aL hF.p hF.o)) (bH (vC t xa xb xc xd _ _ (ho.below st.bel) (by first|assumption|constructor<;>omega) (by omega) (by omega)) (mP (by first|assumption|constructor<;>omega) (by omega) (by omega))) Rh.cl rfl rfl rfl fun vv5 w4 a st hF=>?_
     obtain⟨r7,rfl⟩:=Rr.fo (st.f 0 rfl).1
     refine S.callxg st hF (au rfl rfl (hF.at 3 rfl) rfl) (rgc k95 (aG hF.o)) (AF _ _ 120 3 _ (st.f 0 rfl).1 (st.f 0 rfl).2 (by omega) (by omega) (by omega) (by have:=sL hok t;omega) (by have:=sL hok t;omega)) rfl rfl rfl fun w8 a st hF=>?_
     refine og hF (aD (hF.at 11 rfl)) 4 rfl rfl rfl fun a hF=>?_
     by_cases hc9:amL t xa xb xc xd<z0
     ·first
      |(exfalso;omega)
      |(refine og hF (aq hF.p hF.o aa (aO (aY (c:=true) (aI hc9)) (by simp))) 5 rfl rfl rfl fun a hF=>?_
        refine oV hF (aK (hF.at 6 rfl) hF.o) rfl fun a hF=>E.nil<|wp_cond_true hF.o<|wp_skip<|E.norm<|wp_seq<|wp_block<|E.seq<|oM hF 11 rfl rfl fun a hF=>oV hF (aq hF.o ao aa (aX (by omega) (by omega))) rfl fun a hF=>oE hF 0 rfl rfl fun a hF=>E.nil0 ?_
        refine E.blk<|E.norm<|E.seq<|oM hF 13 rfl rfl fun a hF=>oV hF (aq hF.o ao aa (aX (by omega) (by omega))) rfl fun a hF=>oE hF 0 rfl rfl fun a hF=>E.nil0<|E.norm ?_
        exact⟨(8-(j+1):Int).toNat,by omega,⟨(t+1:Int),(j+1:Int),(by omega),(by omega),(by omega),(by have:=hbi t;omega),Fr.pick (L':=[(6,iv (j+1)),(5,iv (t+1)),(4,iv 0),(3,.pointer (some ⟨g3,0,none⟩)),(0,iv z0)]) hF [0,3,16,17,18] rfl,st.pick [0] [] rfl rfl (by decide),rfl⟩⟩)
     ·first
      |(exfalso;omega)
      |(refine og hF (aq hF.p hF.o aa (aO (aY (c:=false) (aJ hc9)) (by simp))) 5 rfl rfl rfl fun a hF=>?_
        refine oV hF (aK (hF.at 6 rfl) hF.o) rfl fun a hF=>E.nil<|wp_cond_false hF.o<|wp_exit<|E.past<|E.past<|E.out (id:=0)<|E.norm<|wq ?_
        refine oM hF 11 rfl rfl fun a hF=>oE hF 0 rfl rfl fun a hF=>nr ?_
        have bel:=st.bel
        refine rt Tryz.results42 hF 0 rfl ?_
        have:=hbi t
        exact⟨ch (by omega),bel⟩))
  ·exfalso;omega
theorem EY (wa wb wc wd:Int) (w:World):
 CV 17 #[.agg #[iv wa,iv wb,iv wc,iv wd]] w (.agg #[iv (gA 60 120 wa wb),iv (gB wb),iv (gA 180 360 wc wd),iv (gB wd)]):=by
 refine gs1 (nt:=12) Tryz.func17 rfl rfl rfl fun a st hF=>wq<|bx st hF 0 rfl rfl fun g1 w1 a st hF=>S.alloc st hF be rfl rfl fun g2 w2 a st hF=>nq<|oV hF (az hF.p (Hg (p:=0) rfl)) rfl fun a hF=>oV hF (ar hF.o (bl (v:= iv wa) (st.bk 1 rfl) rfl)) rfl fun a hF=>oV hF (az (hF.at 3 rfl) (Iu (p:=1) rfl)) rfl fun a hF=>oV hF (ar hF.o (bl (v:= iv wb) (st.bk 1 rfl) rfl)) rfl fun a hF=>oV hF (az (hF.at 5 rfl) (Jw (p:=2) rfl)) rfl fun a hF=>oV hF (ar hF.o (bl (v:= iv wc) (st.bk 1 rfl) rfl)) rfl fun a hF=>oV hF (az (hF.at 7 rfl) (H6 (p:=3) rfl)) rfl fun a hF=>?_
 refine oV hF (ar hF.o (bl (v:= iv wd) (st.bk 1 rfl) rfl)) rfl fun a hF=>cX st hF (rgc k53 (fB (hF.at 6 rfl) (hF.at 4 rfl) hF.q hF.o)) (yl wa wb wc wd _) rfl fun w3 a st hF=>?_
 have hg1:=qe wb
 have hg2:=vr wa wb
 have hg3:=qe wd
 have hg4:=wg wc wd
 have hok9250:=mj wa wb wc wd
 refine S.stoI st hF 0 rfl (hF.at 9 rfl) hF.o be rfl rfl rfl fun w4 a st hF=>nr<|rs Tryz.results17 st hF 9 0 be rfl rfl rfl ?_
 exact⟨rfl,st.bel⟩
theorem kP {wa wb wc wd pa pb pc pd:Int} (w:World) (ha:gA 60 120 wa wb=pa) (hb:gB wb=pb) (hc:gA 180 360 wc wd=pc) (hd:gB wd=pd):CV 17 #[.agg #[iv wa,iv wb,iv wc,iv wd]] w (.agg #[iv pa,iv pb,iv pc,iv pd]):=by
 subst ha hb hc hd
 exact EY wa wb wc wd w
theorem El {n z:Int} (w:World) (h:inD n=z):CV 16 #[iv n] w (iv z):=by
 subst h
 exact MF n w
theorem iE (w:World) (hT:bE w):
 CV 38 #[] w (.bool true):=by
 refine gs0 (nt:=32) Tryz.func38 rfl rfl fun a st hF=>wq ?_
 refine oC hF rfl fun a hF=>nq<|cX st hF (rgc k90 fR) (sl _) rfl fun w1 a st hF=>?_
 refine E.call hF (rgc k46 (vo ao ao hF.o)) (Ag 4 0 463 20 45461 600 _ (by decide)) rfl rfl rfl rfl ?_
 rintro e w2 ⟨ad3,cap4,rfl,bb⟩
 refine⟨_,rfl,?_⟩
 intro a hF
 replace st:=st.to bb
 clear bb
 refine oM hF 0 rfl rfl fun a hF=>oV hF (aH (v:= .slice ad3 0 cap4) hF.o rfl) rfl fun a hF=>oV hF (aH (v:= iv 6) hF.p rfl) rfl fun a hF=>oA hF 1 rfl rfl fun a hF=>oA hF 1 rfl rfl fun a hF=>nq<|cX st hF (rgc k90 fR) (sl _) rfl fun w5 a st hF=>?_
 refine E.call hF (rgc k43 (aL ao hF.o)) (Az 9001 463 20 45461 600 _ (by decide+kernel)) rfl rfl rfl rfl ?_
 rintro e w6 ⟨ad7,cap8,rfl,bb⟩
 refine⟨_,rfl,?_⟩
 intro a hF
 replace st:=st.to bb
 clear bb
 refine oM hF 0 rfl rfl fun a hF=>oV hF (aH (v:= .slice ad7 0 cap8) hF.o rfl) rfl fun a hF=>oV hF (aH (v:= iv (ff 9001 1 1 463 20 45461 600)) hF.p rfl) rfl fun a hF=>oA hF 1 rfl rfl fun a hF=>oA hF 1 rfl rfl fun a hF=>nq<|cX st hF (rgc k90 fR) (sl _) rfl fun w9 a st hF=>?_
 refine E.call hF (rgc k49 (fB ao ao ao hF.o)) (yq 0 13 false 463 20 45461 600 _ (by decide+kernel)) rfl rfl rfl rfl ?_
 rintro e w10 ⟨ad11,cap12,rfl,bb⟩
 refine⟨_,rfl,?_⟩
 intro a hF
 replace st:=st.to bb
 clear bb
 refine oM hF 0 rfl rfl fun a hF=>oV hF (aH (v:= .slice ad11 0 cap12) hF.o rfl) rfl fun a hF=>oV hF (aH (v:= iv (ff 0 13 1 463 20 45461 600)) hF.p rfl) rfl fun a hF=>oA hF 1 rfl rfl fun a hF=>oA hF 1 rfl rfl fun a hF=>nq<|oM hF 14 rfl rfl fun a hF=>oT hF 0 (aV (c:=true) (by decide)) rfl rfl fun a hF=>oM hF 0 rfl rfl fun a hF=>og hF (aD (hF.at 10 rfl)) 0 rfl rfl rfl fun a hF=>og hF (aq hF.o ao aa (aO (aV (c:=true) (aI (by decide+kernel))) (by simp))) 1 rfl rfl rfl fun a hF=>oV hF (aK hF.q hF.o) rfl fun a hF=>oM hF 0 rfl rfl fun a hF=>?_
 refine og hF (aD (hF.at 7 rfl)) 0 rfl rfl rfl fun a hF=>og hF (aq hF.o ao aa (aO (aV (c:=true) (aI (by decide+kernel))) (by simp))) 1 rfl rfl rfl fun a hF=>oV hF (aK hF.q hF.o) rfl fun a hF=>oE hF 0 rfl rfl fun a hF=>nr ?_
 have bel:=st.bel
 refine rt Tryz.results38 hF 0 rfl ?_
 exact⟨rfl,bel⟩
theorem tablesBegin_walk (n wa wb wc wd:Int) (w:World) (hT:bE w):
 CV 8 #[iv n,.agg #[iv wa,iv wb,iv wc,iv wd]] w (.bool true):=by
 obtain⟨pa,hpa⟩:∃z:Int,gA 60 120 wa wb=z:=⟨_,rfl⟩
 obtain⟨pb,hpb⟩:∃z:Int,gB wb=z:=⟨_,rfl⟩
 obtain⟨pc,hpc⟩:∃z:Int,gA 180 360 wc wd=z:=⟨_,rfl⟩
 obtain⟨pd,hpd⟩:∃z:Int,gB wd=z:=⟨_,rfl⟩
 have hok:bN pa pb pc pd:=by rw[<-hpa,<-hpb,<-hpc,<-hpd];exact mj wa wb wc wd
 have hp1:=hok.b0
 have hp2:=hok.b1
 have hp3:=hok.a0
 have hp4:=hok.a1
 have hp5:=hok.d0
 have hp6:=hok.d1
 have hp7:=hok.c0
 have hp8:=hok.c1
 obtain⟨ny,hny⟩:∃z:Int,inD n=z:=⟨_,rfl⟩
 have hin0:=Fh n
 rw[hny] at hin0
 have hln:=GZ ny
 obtain⟨fd,hfd⟩:∃z:Int,aA (((ny:Int)):Rat)=z:=⟨_,rfl⟩
 rw[hfd] at hln
 have hc:=hln.2.2
 have hbt:=Oq hok hc
 obtain⟨B,hB⟩:∃z:Int,beV pa pb pc pd fd=z:=⟨_,rfl⟩
 rw[hB] at hbt
 have hbn:=fj hok hc
 rw[hB] at hbn
 refine gs2 (nt:=34) Tryz.func8 rfl rfl rfl fun a st hF=>wq<|bx st hF 1 rfl rfl fun g3 w1 a st hF=>?_
 refine oC hF rfl fun a hF=>ns<|wq<|cX st hF (rgc k38 fR) (iE _ (hT.below st.bel)) rfl fun w2 a st hF=>oV hF (dF hF.o (cO _ false rfl)) rfl fun a hF=>E.nil<|wp_cond_false hF.o<|wp_skip<|E.norm<|wq<|oL hF st 3 0 oH rfl rfl rfl rfl fun a hF=>?_
 refine cX st hF (rgc k17 (aG hF.o)) (kP _ hpa hpb hpc hpd) rfl fun w3 a st hF=>S.new st hF 0 rfl be rfl rfl rfl rfl rfl fun g5 w4 a st hF=>nq<|oM hF 7 rfl rfl fun a hF=>cX st hF (rgc k16 (aG hF.o)) (El _ hny) rfl fun w5 a st hF=>S.ck st hF (rgc k40 (aG hF.o)) dM Rl.cl rfl fun vv7 w6 a st hF=>?_
 obtain⟨r9,rfl⟩:=Rq.fo (st.f 0 rfl).1
 refine cX st hF (rgc k39 (aG hF.o)) (vj _ (hT.below st.bel) (st.f 0 rfl).1 (st.f 0 rfl).2 (by omega) (by rw[Rat.floor_intCast];omega) (by rw[Rat.floor_intCast];omega) hfd) rfl fun w10 a st hF=>S.new st hF 0 rfl bV rfl rfl rfl rfl rfl fun g6 w11 a st hF=>nq<|oL hF st 0 0 bV rfl rfl rfl rfl fun a hF=>oL hF st 6 1 be rfl rfl rfl rfl fun a hF=>cX st hF (rgc k41 (aL hF.p hF.o)) (td fd (aw fd) (smV fd%12) (smV (aw fd)%12) pa pb pc pd _ (hT.below st.bel) (by first|assumption|constructor<;>omega) hc (by omega) (by omega) B hB) rfl fun w12 a st hF=>?_
 refine oA hF 0 rfl rfl fun a hF=>ns ?_
 refine E.rg 13 aM hF [19,20,21,22,23,24,25,26,27,28,29,30,31] [_,_,_,_,.of (fun w v=>RPl w v (((pa:Int):Rat)/((pb:Int):Rat)) (((pc:Int):Rat)/((pd:Int):Rat)) 2) (fun _ _ _ h hb=>h.below hb),_,.ex (.bool true),.ex (.bool true),.ex (iv B),.ex (iv (B+2)),.of (fun w v=>Rl (((B+2:Int):Rat)) (2) w v) (Rl.mb _ _),.ex (.agg #[iv fd,iv (aw fd),iv (smV fd%12),iv (smV (aw fd)%12)]),.ex (.agg #[iv fd,iv (aw fd),iv (smV fd%12),iv (smV (aw fd)%12)])] (by decide+kernel) rfl rfl rfl ⟨rm 0 rfl,rfd 4 (fun _=>jD (p:=0) rfl) rfl,rld rfl fun _ hb=>(bl (v:= iv fd) ((st.bk 0 rfl).below hb) rfl),rb st be 9 1 rfl,ck st k19 rfl fun _ s=>gi (CI pa pb pc pd _ (by omega) (by omega) (by omega) (by omega) (by omega) (by omega) (by omega) (by omega)),ck st k42 rfl fun _ s _ x23=>bD (yH fd pa pb pc pd _ _ x23 (by first|assumption|constructor<;>omega) hc (by omega) (by omega) B hB),(by intro a' w' hF' hb hd;have e19:=tE hd 0 rfl;have e24:=tE hd 1 rfl;exact dv0 (aq e19 e24 aa (aO (aV (c:=true) (aI (by omega))) (by simp))) rfl rfl rfl),(by intro a' w' hF' hb hd;have e25:=tE hd 0 rfl;exact dv0 (aD e25) rfl rfl rfl),(by intro a' w' hF' hb hd;have e26:=tE hd 0 rfl;exact dv1 (au rfl rfl e26 rfl) (aD (hF'.at 0 rfl)) rfl rfl),(by intro a' w' hF' hb hd;have e26:=tE hd 1 rfl;have e27:=tE hd 0 rfl;exact dv1 (au rfl rfl e26 rfl) (aq e27 ao aa (aX (by omega) (by omega))) rfl rfl),(by intro a' w' hF' hb hd;have e26:=tE hd 1 rfl;have e28:=tE hd 0 rfl;exact dc1 (au rfl rfl e26 rfl) (rk Pz (aG e28)) dM rfl),(by intro a' w' hF' hb hd;have e26:=tE hd 2 rfl;obtain⟨v29_0,e29,h29_1⟩:=tH hd 0 rfl;exact JV (au rfl rfl e26 rfl) (rk NU (aG e29)) (vj _ (hT.below (aF st.bel hb)) h29_1.1 h29_1.2 (by omega) (by rw[Rat.floor_intCast];omega) (by rw[Rat.floor_intCast];omega) hbt) (fun _=>rfl) rfl),(by intro a' w' hF' hb hd;have e26:=tE hd 0 rfl;exact dv1 (au rfl rfl e26 rfl) (ar (hF'.at 4 rfl) (bK bV ((st.bk 0 rfl).below hb) rfl)) rfl rfl),trivial⟩ ?_
 intro a w13 hF bb hall
 replace st:=st.to bb
 replace hF:=rE hall hF 7 rfl rfl
 replace hF:=rE hall hF 11 rfl rfl
 replace hF:=rE hall hF 12 rfl rfl
 clear hall bb
 refine og hF (aq hF.p hF.o Pj (Pp (aI (by simp)))) 2 rfl rfl rfl fun a hF=>oV hF (aK (hF.at 3 rfl) hF.o) rfl fun a hF=>oE hF 0 rfl rfl fun a hF=>nr ?_
 have bel:=st.bel
 refine rt Tryz.results8 hF 0 rfl ?_
 exact⟨rfl,bel⟩
end Go.Proofs.YtgdpkknapcgcbaaGreatDoor
