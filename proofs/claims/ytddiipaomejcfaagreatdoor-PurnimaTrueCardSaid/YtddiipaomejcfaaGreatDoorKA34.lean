import Derived.Test.YtddiipaomejcfaaGreatDoorKA32
namespace Go.Proofs.YtddiipaomejcfaaGreatDoor
open Go.RowKit
set_option maxRecDepth 100000
set_option linter.unusedVariables false
set_option maxHeartbeats 8000000
theorem qR (v1:Value) (qt:Rat) (k:Nat) (w:World) (hT:a8 w) (h1:Rq w v1 qt) (hl:au qt k) (hk:k<=100):CV 49 #[v1] w (iv (tiV qt%30+1)):=by
 rw[<-Ei]
 exact v7 v1 qt k w hT h1 hl hk
theorem oB {v1:Value} {qt:Rat} {k:Nat} {L:Int} (w:World) (hT:a8 w) (h1:Rq w v1 qt) (hl:au qt k) (hk:k<=100) (hf0: -90000000<=Rat.floor qt) (hf1:Rat.floor qt<=90000000) (e:ar qt=L):CV 37 #[v1] w (.agg #[iv L,iv (ag L),iv (smV L%12),iv (smV (ag L)%12)]):=by
 subst e
 exact qY v1 qt k w hT h1 hl hk hf0 hf1
theorem gY (n xa xb xc xd X:Int) (w:World) (hT:a8 w) (hok:bz xa xb xc xd) (hn0: -3850000<=n) (hn1:n<=3850000) (hX:amX n xa xb xc xd=X):
 CV 31 #[iv n,.agg #[iv xa,iv xb,iv xc,iv xd]] w (iv (X%30+1)):=by
 refine gs2 (nt:=9) Tryz.func31 rfl rfl rfl fun a st hF=>wq<|bx st hF 1 rfl rfl fun g3 w1 a st hF=>?_
 refine oC hF rfl fun a hF=>nq<|oM hF 2 rfl rfl fun a hF=>oL hF st 2 0 aM rfl rfl rfl rfl fun a hF=>S.ck st hF (rgc k38 (aH hF.p hF.o)) (aN (fX n xa xb xc xd _ (hT.below st.bel) (by first|assumption|constructor<;>omega) (by omega) (by omega)) (iX (by first|assumption|constructor<;>omega) (by omega) (by omega))) Rl.cl rfl fun vv3 w2 a st hF=>?_
 obtain⟨r5,rfl⟩:=Rq.fo (st.f 0 rfl).1
 refine cX st hF (rgc k49 (aL hF.o)) (qR _ _ 3 _ (hT.below st.bel) (st.f 0 rfl).1 (st.f 0 rfl).2 (by omega)) rfl fun w6 a st hF=>?_
 refine oE hF 0 rfl rfl fun a hF=>nr ?_
 have bel:=st.bel
 refine rt Tryz.results31 hF 0 rfl ?_
 refine⟨bS ?_,bel⟩
 rw[<-hX]
 rfl
theorem vm (n m:Int) (w:World) (hT:a8 w) (hn0: -3800000<=n) (hn1:n<=3800000):
 CV 51 #[iv n,iv m] w (iv (mN n m)):=by
 have hka:=BG (n:=n+180) (by omega) (by omega)
 have hkb:=BG (n:=n+ -1) (by omega) (by omega)
 refine gs2 (nt:=20) Tryz.func51 rfl rfl rfl fun a st hF=>wq ?_
 refine oC hF rfl fun a hF=>nq ?_
 refine oM hF 1 rfl rfl fun a hF=>oV hF (ao hF.o aq ah (aU (by omega) (by omega))) rfl fun a hF=>oA hF 0 rfl rfl fun a hF=>ns<|wq<|oM hF 5 rfl rfl fun a hF=>?_
 by_cases hc1:m=1
 ·first
  |(exfalso;omega)
  |(refine oT hF 0 (aD (c:=true) (aA hc1)) rfl rfl fun a hF=>?_
    refine oM hF 0 rfl rfl fun a hF=>nu hF 0 rfl rfl rfl fun a hF=>nu hF 1 rfl rfl rfl fun a hF=>oV hF (aB hF.q aq) rfl fun a hF=>E.nil<|wp_cond_true hF.o<|E.seq ?_
    refine oM hF 10 rfl rfl fun a hF=>oV hF (ao hF.o aq ah (aU (by omega) (by omega))) rfl fun a hF=>oE hF 0 rfl rfl fun a hF=>nq<|oM hF 0 rfl rfl fun a hF=>S.ck st hF (rgc k52 (aL hF.o)) cD Rl.cl rfl fun vv3 w2 a st hF=>?_
    obtain⟨r5,rfl⟩:=Rq.fo (st.f 0 rfl).1
    refine cX st hF (rgc k88 (aL hF.o)) (jH _ _ 2 _ (hT.below st.bel) (st.f 0 rfl).1 (st.f 0 rfl).2 (by omega) (by omega) (by omega)) rfl fun w6 a st hF=>?_
    refine oV hF (ao hF.o aq ah (bT (by omega) (by omega))) rfl fun a hF=>oE hF 0 rfl rfl fun a hF=>nr ?_
    have bel:=st.bel
    refine rt Tryz.results51 hF 0 rfl ?_
    refine⟨bS ?_,bel⟩
    unfold mN
    rw[if_pos (by omega)]
    omega)
 ·first
  |(exfalso;omega)
  |(refine oT hF 0 (aD (c:=false) (aK hc1)) rfl rfl fun a hF=>?_
    refine oM hF 0 rfl rfl fun a hF=>og hF (aC (hF.at 8 rfl)) 0 rfl rfl rfl fun a hF=>?_
    by_cases hc7:m=2
    ·first
     |(exfalso;omega)
     |(refine og hF (ao hF.o aq ah (aO (aD (c:=true) (aA hc7)) (by simp))) 1 rfl rfl rfl fun a hF=>?_
       refine oV hF (aX hF.q hF.o) rfl fun a hF=>E.nil<|wp_cond_true hF.o<|E.seq ?_
       refine oM hF 10 rfl rfl fun a hF=>oV hF (ao hF.o aq ah (aU (by omega) (by omega))) rfl fun a hF=>oE hF 0 rfl rfl fun a hF=>nq<|oM hF 0 rfl rfl fun a hF=>S.ck st hF (rgc k52 (aL hF.o)) cD Rl.cl rfl fun vv9 w8 a st hF=>?_
       obtain⟨r11,rfl⟩:=Rq.fo (st.f 0 rfl).1
       refine cX st hF (rgc k88 (aL hF.o)) (jH _ _ 2 _ (hT.below st.bel) (st.f 0 rfl).1 (st.f 0 rfl).2 (by omega) (by omega) (by omega)) rfl fun w12 a st hF=>?_
       refine oV hF (ao hF.o aq ah (bT (by omega) (by omega))) rfl fun a hF=>oE hF 0 rfl rfl fun a hF=>nr ?_
       have bel:=st.bel
       refine rt Tryz.results51 hF 0 rfl ?_
       refine⟨bS ?_,bel⟩
       unfold mN
       rw[if_pos (by omega)]
       omega)
    ·first
     |(exfalso;omega)
     |(refine og hF (ao hF.o aq ah (aO (aD (c:=false) (aK hc7)) (by simp))) 1 rfl rfl rfl fun a hF=>?_
       refine oV hF (aX hF.q hF.o) rfl fun a hF=>E.nil<|wp_cond_false hF.o<|wp_skip<|E.norm<|wq<|oM hF 6 rfl rfl fun a hF=>S.ck st hF (rgc k52 (aL hF.o)) cD Rl.cl rfl fun vv14 w13 a st hF=>?_
       obtain⟨r16,rfl⟩:=Rq.fo (st.f 0 rfl).1
       refine cX st hF (rgc k88 (aL hF.o)) (jH _ _ 2 _ (hT.below st.bel) (st.f 0 rfl).1 (st.f 0 rfl).2 (by omega) (by omega) (by omega)) rfl fun w17 a st hF=>?_
       refine oV hF (ao hF.o aq ah (bT (by omega) (by omega))) rfl fun a hF=>oE hF 0 rfl rfl fun a hF=>nr ?_
       have bel:=st.bel
       refine rt Tryz.results51 hF 0 rfl ?_
       refine⟨bS ?_,bel⟩
       unfold mN
       rw[if_neg (by omega),show n-1=n+ -1 from Int.sub_eq_add_neg]
       omega))
theorem fT (n xa xb xc xd L X Y:Int) (w:World) (hT:a8 w) (hok:bz xa xb xc xd) (hn0: -3800000<=n) (hn1:n<=3800000) (hL:amL n xa xb xc xd=L) (hX:amX n xa xb xc xd=X) (hY:amX (n-1) xa xb xc xd=Y):
 CV 22 #[iv n,.agg #[iv xa,iv xb,iv xc,iv xd]] w (.agg #[iv ((smV L+1)/12-1955883044),iv ((smV L+1)%12+1),.bool (decide (smV (ag L)=smV L)),iv (X%30+1),.bool (decide (Y=X))]):=by
 have hst:=oJ hok (n-1)
 rw[show n-1+1=n by omega,hX,hY] at hst
 have hsm:=fc (dA n xa xb xc xd)
 rw[hL] at hsm
 have hyr:=Dh hok hL
 refine gs2 (nt:=32) Tryz.func22 rfl rfl rfl fun a st hF=>wq<|bx st hF 1 rfl rfl fun g3 w1 a st hF=>S.alloc st hF aG rfl rfl fun g4 w2 a st hF=>nq<|oM hF 2 rfl rfl fun a hF=>oL hF st 2 1 aM rfl rfl rfl rfl fun a hF=>S.ck st hF (rgc k38 (aH hF.p hF.o)) (aN (fX n xa xb xc xd _ (hT.below st.bel) (by first|assumption|constructor<;>omega) (by omega) (by omega)) (iX (by first|assumption|constructor<;>omega) (by omega) (by omega))) Rl.cl rfl fun vv4 w3 a st hF=>?_
 obtain⟨r6,rfl⟩:=Rq.fo (st.f 0 rfl).1
 refine S.new st hF 0 rfl aa rfl rfl rfl rfl rfl fun g5 w7 a st hF=>ns ?_
 refine E.rga 5 aP hF [12,13,14,15,6] [_,_,_,_,kb w7 [iv 0,iv 0,iv 0,iv 0]] [4] ⟨fun _ _ ⟨g,e,_,o⟩=>⟨g,e,o.lt⟩,trivial⟩ (by decide+kernel) rfl rfl rfl ⟨rb st aa 0 0 rfl,ck st k37 rfl fun _ s=>a9 (oB _ (hT.below s.bel) (s.f 0 rfl).1 (s.f 0 rfl).2 (by omega) (by have:=l6 hok n;omega) (by have:=l6 hok n;omega) hL),rb st aa 0 0 rfl,ck st k49 rfl fun _ s=>a9 (qR _ (cO (eI n xa xb xc xd)) 3 _ (hT.below s.bel) (s.f 0 rfl).1 (s.f 0 rfl).2 (by omega)),rai bw rfl,trivial⟩ ?_
 intro a w8 hF bb hall hne
 have s0:=st
 replace st:=st.to bb
 replace hF:=rE hall hF 1 rfl rfl
 replace hF:=rE hall hF 3 rfl rfl
 obtain⟨_,e6,g6,rfl,ge6,o6⟩:=sS hall 4 6 rfl rfl
 replace st:=st.push o6 (Nat.le_trans s0.bel.size ge6) (s0.ne ge6)
 clear o6
 replace hF:=hF.add e6
 clear hall bb hne s0
 refine S.stoI st hF 0 rfl hF.o hF.q bw rfl rfl rfl fun w9 a st hF=>?_
 refine oA hF 1 rfl rfl fun a hF=>nq<|oL hF st 1 0 bw rfl rfl rfl rfl fun a hF=>cX st hF (rgc k50 (aL hF.o)) (dM L (ag L) (smV L%12) (smV (ag L)%12) _ (by omega) (by omega)) rfl fun w10 a st hF=>?_
 refine oA hF 0 rfl rfl fun a hF=>ns ?_
 refine E.rg 14 aP hF [18,19,20,21,22,23,24,25,26,27,28,29,30,31] [_,_,_,_,_,_,_,_,.ex (iv (n-1)),_,_,_,.ex (.bool (decide (Y%30+1=tiV (cO (eI n xa xb xc xd))%30+1))),.ex (.agg #[iv (mN n (((smV L%12)+1)%12+1)),iv (((smV L%12)+1)%12+1),.bool (decide ((smV L%12)=(smV (ag L)%12))),iv (tiV (cO (eI n xa xb xc xd))%30+1),.bool (decide (Y%30+1=tiV (cO (eI n xa xb xc xd))%30+1))])] (by decide+kernel) rfl rfl rfl ⟨rm 13 rfl,rm 0 rfl,ck st k51 rfl fun _ s=>a9 (vm n (((smV L%12)+1)%12+1) _ (hT.below s.bel) (by omega) (by omega)),rm 0 rfl,rb st bw 4 0 rfl,ck st k27 rfl fun _ s=>a9 (fF L (ag L) (smV L%12) (smV (ag L)%12) _),rm 3 rfl,rm 13 rfl,(by intro a' w' hF' hb hd;have e25:=tE hd 0 rfl;exact dv0 (ao e25 aq ah (bT (by omega) (by omega))) rfl rfl rfl),rb st aM 12 3 rfl,ck st k31 rfl fun _ s=>a9 (gY (n-1) xa xb xc xd Y _ (hT.below s.bel) (by first|assumption|constructor<;>omega) (by omega) (by omega) hY),rm 3 rfl,(by intro a' w' hF' hb hd;have e28:=tE hd 0 rfl;have e29:=tE hd 1 rfl;exact dv0 (ao e28 e29 ah (aO (aD (c:=decide (Y%30+1=tiV (cO (eI n xa xb xc xd))%30+1)) rfl) (by simp))) rfl rfl rfl),(by intro a' w' hF' hb hd;have e20:=tE hd 0 rfl;have e21:=tE hd 1 rfl;have e23:=tE hd 2 rfl;have e24:=tE hd 3 rfl;have e30:=tE hd 4 rfl;exact dv0 (bH (BB e20 e21 e23 e24 e30) (sE _ _ _ _ _ _)) rfl rfl rfl),trivial⟩ ?_
 intro a w11 hF bb hall
 replace st:=st.to bb
 replace hF:=rE hall hF 13 rfl rfl
 clear hall bb
 refine S.stoI st hF 2 rfl (hF.at 12 rfl) hF.o aG rfl rfl rfl fun w12 a st hF=>nr<|rs Tryz.results22 st hF 12 2 aG rfl rfl rfl ?_
 refine⟨vh ?_ ?_ ?_ ?_ ?_,st.bel⟩
 ·rw[show(smV L%12+1)%12+1=(smV L+1)%12+1 by omega,hyr]
 ·omega
 ·exact decide_eq_decide.2 (by omega)
 ·rw[<-hX];rfl
 ·rw[show tiV (cO (eI n xa xb xc xd))=X from hX];exact decide_eq_decide.2 (by omega)
theorem ye (n xa xb xc xd:Int) (w:World) (hE:plE xa xb xc xd≠0):
 CV 16 #[iv n,.agg #[iv xa,iv xb,iv xc,iv xd]] w (.tuple #[.agg #[iv 0,iv 0,.bool false,iv 0,.bool false],iv (plE xa xb xc xd)]):=by
 refine gs2 (nt:=20) Tryz.func16 rfl rfl rfl fun a st hF=>wq<|bx st hF 1 rfl rfl fun g3 w1 a st hF=>S.alloc st hF aG rfl rfl fun g4 w2 a st hF=>?_
 refine oC hF rfl fun a hF=>ns<|wq<|oL hF st 2 1 aM rfl rfl rfl rfl fun a hF=>cX st hF (rgc k43 (aL hF.o)) (kO xa xb xc xd _) rfl fun w3 a st hF=>?_
 refine oA hF 0 rfl rfl fun a hF=>nq<|oM hF 0 rfl rfl fun a hF=>oT hF 0 (bn (c:=true) (aA (by omega))) rfl rfl fun a hF=>E.nil<|wp_cond_true hF.o<|wq<|oV hF (bH (by simp) (uP _)) rfl fun a hF=>oM hF 3 rfl rfl fun a hF=>S.stoI st hF 0 rfl (hF.at 8 rfl) hF.p aG rfl rfl rfl fun w4 a st hF=>?_
 refine oE hF 0 rfl rfl fun a hF=>nr ?_
 have bel:=st.bel
 refine bodyPost_ret (gW Tryz.results16 (hF.at 8 rfl) (aZ aG (st.bk 0 rfl) rfl) hF.o) hF.dfr ?_
 exact⟨rfl,bel⟩
theorem fh (n xa xb xc xd L X Y:Int) (w:World) (hT:a8 w) (hok:bz xa xb xc xd) (hn0: -3000000<=n) (hn1:n<=3000000) (hL:amL n xa xb xc xd=L) (hX:amX n xa xb xc xd=X) (hY:amX (n-1) xa xb xc xd=Y):
 CV 16 #[iv n,.agg #[iv xa,iv xb,iv xc,iv xd]] w (.tuple #[.agg #[iv ((smV L+1)/12-1955883044),iv ((smV L+1)%12+1),.bool (decide (smV (ag L)=smV L)),iv (X%30+1),.bool (decide (Y=X))],iv 0]):=by
 have hck:plE xa xb xc xd=0:=vO hok
 refine gs2 (nt:=20) Tryz.func16 rfl rfl rfl fun a st hF=>wq<|bx st hF 1 rfl rfl fun g3 w1 a st hF=>S.alloc st hF aG rfl rfl fun g4 w2 a st hF=>?_
 refine oC hF rfl fun a hF=>ns<|wq<|oL hF st 2 1 aM rfl rfl rfl rfl fun a hF=>cX st hF (rgc k43 (aL hF.o)) (kO xa xb xc xd _) rfl fun w3 a st hF=>?_
 refine oA hF 0 rfl rfl fun a hF=>nq<|oM hF 0 rfl rfl fun a hF=>oT hF 0 (bn (c:=false) (aK (by omega))) rfl rfl fun a hF=>E.nil<|wp_cond_false hF.o<|wp_skip<|E.norm<|wp_seq<|wq<|oM hF 8 rfl rfl fun a hF=>cX st hF (rgc k44 (aL hF.o)) (nA n _ (by omega) (by omega)) rfl fun w4 a st hF=>?_
 refine oV hF (dc hF.o (b7 _ false rfl)) rfl fun a hF=>E.nil<|wp_cond_false hF.o<|wp_skip<|E.norm<|wq<|oM hF 11 rfl rfl fun a hF=>oL hF st 11 1 aM rfl rfl rfl rfl fun a hF=>cX st hF (rgc k22 (aH hF.p hF.o)) (fT n xa xb xc xd L X Y _ (hT.below st.bel) (by first|assumption|constructor<;>omega) (by omega) (by omega) hL hX hY) rfl fun w5 a st hF=>S.stoI st hF 0 rfl (hF.at 12 rfl) hF.o aG rfl rfl rfl fun w6 a st hF=>?_
 refine oS hF (a5 aq) rfl fun a hF=>nr ?_
 have bel:=st.bel
 refine bodyPost_ret (gW Tryz.results16 (hF.at 12 rfl) (aZ aG (st.bk 0 rfl) rfl) hF.o) hF.dfr ?_
 exact⟨rfl,bel⟩
end Go.Proofs.YtddiipaomejcfaaGreatDoor
