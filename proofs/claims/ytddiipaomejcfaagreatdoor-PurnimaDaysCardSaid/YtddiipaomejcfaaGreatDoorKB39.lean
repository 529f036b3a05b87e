import Derived.Test.YtddiipaomejcfaaGreatDoorKB38
namespace Go.Proofs.YtddiipaomejcfaaGreatDoor
open Go.RowKit
set_option maxRecDepth 100000
set_option linter.unusedVariables false
set_option maxHeartbeats 8000000
theorem K9 {f:FuncId} {us vs:Array Value} {w:World}:(binOp .eql 68 (.func (.func f) us vs) .nilFunc).run Tryz.prog w= .ok (.bool false) w:=by
 have h:(Op.equal 68 (.func (.func f) us vs) .nilFunc).run Tryz.prog w= .ok false w:=by
  unfold Op.equal
  rw[show Op.maxDepth=(Op.maxDepth-1)+1 from rfl]
  unfold Op.equalIn
  simp[go_sem,run_underlying Tryz.underlying68]
 simp[binOp,go_sem,h]
structure wN (W:World) (f:FuncId) (cap:Array Value) (lo hi:Int) (p:Int->Bool):Prop where
 fn:∃fn,Tryz.prog.funcs[f]?=some fn/\(fn.name == "runtime.NumGoroutine")=false/\fn.body.isNone=false
 ask:∀h w,Below W.heap.size W w->lo<=h->h<=hi->Calls Tryz.prog f (#[iv h]++cap) w (sW w (.bool (p h)))
theorem wN.below {W W':World} {f:FuncId} {cap:Array Value} {lo hi:Int} {p:Int->Bool} (h:wN W f cap lo hi p) (hb:Below W.heap.size W W'):wN W' f cap lo hi p:=
 ⟨h.fn,fun v w b h0 h1=>h.ask v w (hb.trans (b.mono hb.size)) h0 h1⟩
theorem xg (z0 z1 z2 z3 d xa xb xc xd:Int) (q p:Int->Bool) (kf:FuncId) (cap:Array Value) (w:World) (hT:bn w) (hok:cr xa xb xc xd) (hd0:1<=d) (hd1:d<=30) (hz0: -3700000<=z0) (hz1:z0<=3700000) (hq:∀n,q n=true↔(amX n xa xb xc xd%30+1=d/\p n=true)) (hask:wN w kf cap (-3800000) 3800000 p):
 CV 29 #[.agg #[iv z0,iv z1,iv z2,iv z3],iv d,.agg #[iv xa,iv xb,iv xc,iv xd],.func (.func kf) #[] cap] w (.tuple #[iv (wiV q (z0+(d-1)*63/64-4) 11).1,.bool (wiV q (z0+(d-1)*63/64-4) 11).2]):=by
 obtain⟨fn,hfn1,hfn2,hfn3⟩:=hask.fn
 obtain⟨nrr,hnr⟩:∃z:Int,(d-1)*63/64=z:=⟨_,rfl⟩
 have hnb:0<=nrr/\nrr<=29:=by omega
 rw[hnr]
 obtain⟨W,hW⟩:∃W,wiV q (z0+nrr-4) 11=W:=⟨_,rfl⟩
 rw[hW]
 have st:=St.start w
 refine E.enter (nt:=49) (L:=[(0,.agg #[iv z0,iv z1,iv z2,iv z3]),(1,iv d),(2,.agg #[iv xa,iv xb,iv xc,iv xd]),(3,.func (.func kf) #[] cap)]) Tryz.func29 rfl rfl rfl (bp (i:=0) rfl (bp (i:=1) rfl (bp (i:=2) rfl (bp (i:=3) rfl fv)))) ?_
 intro a hF
 refine wq<|bx st hF 0 rfl rfl fun g4 w1 a st hF=>bx st hF 3 rfl rfl fun g6 w2 a st hF=>?_
 refine oC hF rfl fun a hF=>oC hF rfl fun a hF=>ns<|wq<|oM hF 7 rfl rfl fun a hF=>oV hF (aq hF.o ao zv K9) rfl fun a hF=>E.nil<|wp_cond_false hF.o<|wp_skip<|E.norm<|wq<|oM hF 7 rfl rfl fun a hF=>oV hF (aq hF.o ao aa (bE (by omega) (by omega))) rfl fun a hF=>oV hF (aq hF.o ao aa (dG (by omega) (by omega))) rfl fun a hF=>oV hF (aq hF.o ao aa (ki (a:=(d-1)*63) (b:=64) (by omega) (by omega) (by omega) (by omega))) rfl fun a hF=>oA hF 0 rfl rfl fun a hF=>?_
 replace hF:Fr 49 a [(10,iv nrr),(19,iv (((d-1)*63)/64)),(18,iv ((d-1)*63)),(17,iv (d-1)),(16,iv d),(15,.bool false),(14,.func (.func kf) #[] cap),(9,.bool false),(8,iv 0),(6,.pointer (some ⟨g6,0,none⟩)),(4,.pointer (some ⟨g4,0,none⟩)),(0,.agg #[iv z0,iv z1,iv z2,iv z3]),(1,iv d),(2,.agg #[iv xa,iv xb,iv xc,iv xd]),(3,.func (.func kf) #[] cap)]:=by rw[<-hnr];exact hF
 refine ns<|wq<|oM hF 0 rfl rfl fun a hF=>oV hF (aq hF.o ao aa (bE (by omega) (by omega))) rfl fun a hF=>oA hF 0 rfl rfl fun a hF=>E.nil<|wp_block ?_
 refine E.loop (fun mq a wv=>∃(t:Int),nrr-4<=t/\t<=nrr+7/\wiV q (z0+t) (z0+nrr+7-(z0+t)).toNat =W/\Fr 49 a [(11,iv t),(10,iv nrr),(6,.pointer (some ⟨g6,0,none⟩)),(4,.pointer (some ⟨g4,0,none⟩)),(1,iv d),(3,.func (.func kf) #[] cap)]/\St w wv [(g6,[iv xa,iv xb,iv xc,iv xd]),(g4,[iv z0,iv z1,iv z2,iv z3])] []/\mq=(nrr+7-t:Int).toNat) ((nrr+7-(nrr-4):Int).toNat) ?_ ?_
 ·exact⟨(nrr-4:Int),(by omega),(by omega),(by rw[show(z0+nrr+7-(z0+(nrr-4))).toNat =11 from by omega,show z0+(nrr-4)=z0+nrr-4 from by omega];exact hW),Fr.pick (L':=[(11,iv (nrr-4)),(10,iv nrr),(6,.pointer (some ⟨g6,0,none⟩)),(4,.pointer (some ⟨g4,0,none⟩)),(1,iv d),(3,.func (.func kf) #[] cap)]) hF [0,3,12,13,15,17] rfl,st.pick [0,1] [] rfl rfl (by decide),rfl⟩
 ·rintro mq a w3 ⟨t,ht0,ht1,hin,hF,st,hm⟩
  refine wp_seq<|wq<|oM hF 0 rfl rfl fun a hF=>oM hF 2 rfl rfl fun a hF=>oV hF (aq hF.o ao aa (aO (by omega) (by omega))) rfl fun a hF=>?_
  by_cases hc4:t<=nrr+6
  ·refine oU hF 2 0 (bv (c:=true) (aK hc4)) rfl rfl rfl fun a hF=>E.nil<|wp_cond_true hF.o<|wp_skip<|E.norm<|wp_seq<|wp_block<|wq<|oV hF (az (hF.at 7 rfl) (gC (p:=0) rfl)) rfl fun a hF=>oV hF (av hF.o (bD (v:= iv z0) (st.bk 1 rfl) rfl)) rfl fun a hF=>oM hF 6 rfl rfl fun a hF=>cX st hF (rgc k69 (aF hF.p hF.o)) (vw z0 t _ (by omega) (by omega) (by omega) (by omega)) rfl fun w5 a st hF=>?_
   refine oM hF 0 rfl rfl fun a hF=>oV hF (aM (v:= iv (z0+t)) hF.o rfl) rfl fun a hF=>oV hF (aM (v:= .bool true) hF.p rfl) rfl fun a hF=>oA hF 1 rfl rfl fun a hF=>oA hF 1 rfl rfl fun a hF=>nq<|oM hF 0 rfl rfl fun a hF=>oM hF 0 rfl rfl fun a hF=>og hF (aB (hF.at 3 rfl)) 0 rfl rfl rfl fun a hF=>og hF (av (hF.at 18 rfl) (aX bi (st.bk 0 rfl) rfl)) 1 rfl rfl rfl fun a hF=>?_
   refine S.callxg st hF (ag rfl rfl hF.q rfl) (rgc k31 (aF hF.p hF.o)) (qe (z0+t) xa xb xc xd (amX (z0+t) xa xb xc xd) _ (hT.below st.bel) (by first|assumption|constructor<;>omega) (by omega) (by omega) rfl) rfl rfl rfl fun w6 a st hF=>?_
   refine og hF (aB (hF.at 22 rfl)) 3 rfl rfl rfl fun a hF=>?_
   by_cases hc7:(amX (z0+t) xa xb xc xd)%30+1=d
   ·refine og hF (aq hF.p hF.o aa (aI (aQ (c:=true) (aK (hc7))) (by simp))) 4 rfl rfl rfl fun a hF=>oV hF (aH (hF.at 5 rfl) hF.o) rfl fun a hF=>oM hF 0 rfl rfl fun a hF=>og hF (aB (hF.at 27 rfl)) 0 rfl rfl rfl fun a hF=>og hF (aB (hF.at 11 rfl)) 1 rfl rfl rfl fun a hF=>?_
    refine S.callxg st hF (ag rfl rfl hF.q rfl) (yZ hF.p hfn1 hfn2 hfn3 (aD hF.o)) ((hask.below st.bel).ask (z0+t) _ (Below.refl _ _) (by omega) (by omega)) rfl rfl rfl fun w8 a st hF=>?_
    refine oV hF (aH (hF.at 3 rfl) hF.o) rfl fun a hF=>E.nil ?_
    by_cases hc9:p (z0+t)=true
    ·refine wp_cond_true (Eq.trans hF.o (congrArg Value.bool hc9)) ?_
     refine wq ?_
     refine oM hF 14 rfl rfl fun a hF=>oA hF 0 rfl rfl fun a hF=>oC hF rfl fun a hF=>nr ?_
     have bel:=st.bel
     refine bodyPost_ret (dT Tryz.results29 hF.p hF.o) hF.dfr ?_
     have hr:=hin.symm.trans ((wh (q:=q) (b:=z0+t) (e:=z0+nrr+7) (by omega)).1 ((hq _).2 ⟨hc7,hc9⟩))
     rw[hr]
     exact⟨rfl,bel⟩
    ·refine wp_cond_false (Eq.trans hF.o (congrArg Value.bool (eq_false_of_ne_true hc9))) ?_
     refine wp_skip<|E.blk<|E.norm<|E.seq<|oM hF 26 rfl rfl fun a hF=>oV hF (aq hF.o ao aa (aO (by omega) (by omega))) rfl fun a hF=>oE hF 0 rfl rfl fun a hF=>E.nil0<|E.norm ?_
     exact⟨(nrr+7-(t+1):Int).toNat,by omega,⟨(t+1:Int),(by omega),(by omega),(by rw[show z0+(t+1)=z0+t+1 by omega];exact((wh (q:=q) (b:=z0+t) (e:=z0+nrr+7) (by omega)).2 (fun e=>hc9 ((hq _).1 e).2)).symm.trans hin),Fr.pick (L':=[(11,iv (t+1)),(10,iv nrr),(6,.pointer (some ⟨g6,0,none⟩)),(4,.pointer (some ⟨g4,0,none⟩)),(1,iv d),(3,.func (.func kf) #[] cap)]) hF [0,29,30,31,32,33] rfl,st.pick [0,1] [] rfl rfl (by decide),rfl⟩⟩
   ·refine og hF (aq hF.p hF.o aa (aI (aQ (c:=false) (aL (hc7))) (by simp))) 4 rfl rfl rfl fun a hF=>oV hF (aH (hF.at 5 rfl) hF.o) rfl fun a hF=>oM hF 0 rfl rfl fun a hF=>nu hF 0 rfl rfl rfl fun a hF=>nu hF 1 rfl rfl rfl fun a hF=>nu hF 2 rfl rfl rfl fun a hF=>oV hF (aJ (hF.at 3 rfl) ao) rfl fun a hF=>E.nil<|wp_cond_false hF.o<|wp_skip<|E.blk<|E.norm<|E.seq ?_
    refine oM hF 26 rfl rfl fun a hF=>oV hF (aq hF.o ao aa (aO (by omega) (by omega))) rfl fun a hF=>oE hF 0 rfl rfl fun a hF=>E.nil0<|E.norm ?_
    exact⟨(nrr+7-(t+1):Int).toNat,by omega,⟨(t+1:Int),(by omega),(by omega),(by rw[show z0+(t+1)=z0+t+1 by omega];exact((wh (q:=q) (b:=z0+t) (e:=z0+nrr+7) (by omega)).2 (fun e=>hc7 ((hq _).1 e).1)).symm.trans hin),Fr.pick (L':=[(11,iv (t+1)),(10,iv nrr),(6,.pointer (some ⟨g6,0,none⟩)),(4,.pointer (some ⟨g4,0,none⟩)),(1,iv d),(3,.func (.func kf) #[] cap)]) hF [0,29,30,31,32,33] rfl,st.pick [0,1] [] rfl rfl (by decide),rfl⟩⟩
  ·refine oU hF 2 0 (bv (c:=false) (aL hc4)) rfl rfl rfl fun a hF=>E.nil<|wp_cond_false hF.o<|wp_exit<|E.past<|E.past<|E.out (id:=0)<|E.norm<|wq ?_
   refine oC hF rfl fun a hF=>oC hF rfl fun a hF=>nr ?_
   have bel:=st.bel
   refine bodyPost_ret (dT Tryz.results29 hF.p hF.o) hF.dfr ?_
   have hr:=hin.symm.trans (JC (q:=q) (b:=z0+t) (e:=z0+nrr+7) (by omega))
   rw[hr]
   exact⟨rfl,bel⟩
theorem Le:(Tryz.f45.name == "runtime.NumGoroutine")=false/\Tryz.f45.body.isNone=false:=⟨by decide+kernel,by kernel_rfl⟩
theorem Eg (n:Int) (xa xb xc xd y m:Int) (l:Bool) (x:Int) (u:Bool) (g0 g1:Nat) (w:World) (hT:bn w) (hok:cr xa xb xc xd) (hn0: -3800000<=n) (hn1:n<=3800000) (h0:Blk w g0 [iv xa,iv xb,iv xc,iv xd]) (h1:Blk w g1 [iv y,iv m,.bool l,iv x,.bool u]):
 CV 45 #[iv n,.pointer (some ⟨g0,0,none⟩),.pointer (some ⟨g1,0,none⟩)] w (.bool (fdB xa xb xc xd y m l x u n)):=by
 refine gs3 (nt:=14) Tryz.func45 rfl rfl rfl fun a st hF=>wq ?_
 refine oC hF rfl fun a hF=>ns ?_
 by_cases hc1: -3000000<=n/\n<=3000000
 ·refine E.rg 7 aG hF [5,6,7,8,9,10,11] [_,_,.ex (.bool true),.ex (iv n),.ex (.agg #[iv xa,iv xb,iv xc,iv xd]),.ex (.agg #[iv ((smV (amL n xa xb xc xd)+1)/12-1955883044),iv ((smV (amL n xa xb xc xd)+1)%12+1),.bool (decide (smV (au (amL n xa xb xc xd))=smV (amL n xa xb xc xd))),iv ((amX n xa xb xc xd)%30+1),.bool (decide ((amX (n-1) xa xb xc xd)=(amX n xa xb xc xd)))]),.ex (.agg #[iv y,iv m,.bool l,iv x,.bool u])] (by decide+kernel) rfl rfl rfl ⟨rm 1 rfl,ck st k44 rfl fun _ s=>a7 (wg n _ (by omega) (by omega)),(by intro a' w' hF' hb hd;have e6:=tE hd 0 rfl;exact dv0 (aB e6) rfl rfl rfl),(by intro a' w' hF' hb hd;have e7:=tE hd 0 rfl;exact dv1 (ag rfl rfl e7 rfl) (aB (hF'.at 1 rfl)) rfl rfl),(by intro a' w' hF' hb hd;have e7:=tE hd 0 rfl;exact dv1 (ag rfl rfl e7 rfl) (av (hF'.at 2 rfl) (Ig (vs:=[iv xa,iv xb,iv xc,iv xd]) (h0.below (aC st.bel hb)) rfl rfl)) rfl rfl),(by intro a' w' hF' hb hd;have e7:=tE hd 2 rfl;have e8:=tE hd 0 rfl;have e9:=tE hd 1 rfl;exact jn (ag rfl rfl e7 rfl) (rk NS (aF e8 e9)) (lH n xa xb xc xd (amL n xa xb xc xd) (amX n xa xb xc xd) (amX (n-1) xa xb xc xd) _ (hT.below (aC st.bel hb)) (by first|assumption|constructor<;>omega) (by omega) (by omega) rfl rfl rfl) (fun _=>rfl) rfl),(by intro a' w' hF' hb hd;have e7:=tE hd 0 rfl;exact dv1 (ag rfl rfl e7 rfl) (av (hF'.at 3 rfl) (I8 (vs:=[iv y,iv m,.bool l,iv x,.bool u]) (h1.below (aC st.bel hb)) rfl rfl)) rfl rfl),trivial⟩ ?_
  intro a w2 hF bb hall
  replace st:=st.to bb
  replace hF:=rE hall hF 2 rfl rfl
  replace hF:=rE hall hF 5 rfl rfl
  replace hF:=rE hall hF 6 rfl rfl
  clear hall bb
  by_cases hc3:((smV (amL n xa xb xc xd)+1)/12-1955883044)=y/\((smV (amL n xa xb xc xd)+1)%12+1)=m/\(decide (smV (au (amL n xa xb xc xd))=smV (amL n xa xb xc xd)))=l/\((amX n xa xb xc xd)%30+1)=x/\(decide ((amX (n-1) xa xb xc xd)=(amX n xa xb xc xd)))=u
  ·refine og hF (aq hF.p hF.o vk (vn (aK hc3))) 2 rfl rfl rfl fun a hF=>oV hF (aH (hF.at 3 rfl) hF.o) rfl fun a hF=>oE hF 0 rfl rfl fun a hF=>nr ?_
   have bel:=st.bel
   refine rt Tryz.results45 hF 0 rfl ?_
   have hb:fdB xa xb xc xd y m l x u n=true:=ph.2 ⟨by omega,by omega,hc3.1,hc3.2.1,hc3.2.2.1,hc3.2.2.2.1,hc3.2.2.2.2⟩
   rw[hb]
   exact⟨rfl,bel⟩
  ·refine og hF (aq hF.p hF.o vk (vn (aL hc3))) 2 rfl rfl rfl fun a hF=>oV hF (aH (hF.at 3 rfl) hF.o) rfl fun a hF=>oE hF 0 rfl rfl fun a hF=>nr ?_
   have bel:=st.bel
   refine rt Tryz.results45 hF 0 rfl ?_
   have hb:fdB xa xb xc xd y m l x u n=false:=eq_false_of_ne_true fun e=>hc3 (ph.1 e).2.2
   rw[hb]
   exact⟨rfl,bel⟩
 ·refine E.rg 7 aG hF [5,6,7,8,9,10,11] [_,_,.ex (.bool false),.ex undef,.ex undef,.ex undef,.ex undef] (by decide+kernel) rfl rfl rfl ⟨rm 1 rfl,ck st k44 rfl fun _ s=>a7 (BM n _ (by omega)),(by intro a' w' hF' hb hd;have e6:=tE hd 0 rfl;exact dv0 (aB e6) rfl rfl rfl),(by intro a' w' hF' hb hd;have e7:=tE hd 0 rfl;exact dJ (ag rfl rfl e7 rfl) ⟨rfl,by decide⟩),(by intro a' w' hF' hb hd;have e7:=tE hd 0 rfl;exact dJ (ag rfl rfl e7 rfl) ⟨rfl,by decide⟩),(by intro a' w' hF' hb hd;have e7:=tE hd 2 rfl;exact dJ (ag rfl rfl e7 rfl) ⟨rfl,by decide⟩),(by intro a' w' hF' hb hd;have e7:=tE hd 0 rfl;exact dJ (ag rfl rfl e7 rfl) ⟨rfl,by decide⟩),trivial⟩ ?_
  intro a w4 hF bb hall
  replace st:=st.to bb
  replace hF:=rE hall hF 2 rfl rfl
  replace hF:=rE hall hF 5 rfl rfl
  replace hF:=rE hall hF 6 rfl rfl
  clear hall bb
  refine nu hF 2 rfl rfl rfl fun a hF=>oV hF (aJ (hF.at 3 rfl) ao) rfl fun a hF=>oE hF 0 rfl rfl fun a hF=>nr ?_
  have bel:=st.bel
  refine rt Tryz.results45 hF 0 rfl ?_
  have hb:fdB xa xb xc xd y m l x u n=false:=eq_false_of_ne_true fun e=>(by have hx:=ph.1 e;have hx0:=hx.1;have hx1:=hx.2.1;omega)
  rw[hb]
  exact⟨rfl,bel⟩
theorem MH (xa xb xc xd y m:Int) (l:Bool) (x:Int) (u:Bool) (g0 g1:Nat) (w:World) (hT:bn w) (hok:cr xa xb xc xd) (h0:Blk w g0 [iv xa,iv xb,iv xc,iv xd]) (h1:Blk w g1 [iv y,iv m,.bool l,iv x,.bool u]) (fq:Int->Bool) (hfq:fdB xa xb xc xd y m l x u=fq):wN w 45 #[.pointer (some ⟨g0,0,none⟩),.pointer (some ⟨g1,0,none⟩)] (-3800000) 3800000 fq:=by
 subst hfq
 exact⟨⟨_,Tryz.func45,Le.1,Le.2⟩,fun n w' hb a b=>Eg n xa xb xc xd y m l x u g0 g1 w' (hT.below hb) hok a b (h0.below hb) (h1.below hb)⟩
theorem nj (y m:Int) (l:Bool) (x:Int) (u:Bool) (xa xb xc xd:Int) (w:World) (hE:dU y m x xa xb xc xd≠0):
 CV 17 #[.agg #[iv y,iv m,.bool l,iv x,.bool u],.agg #[iv xa,iv xb,iv xc,iv xd]] w (.tuple #[iv (0),iv (dU y m x xa xb xc xd)]):=by
 refine gs2 (nt:=46) Tryz.func17 rfl rfl rfl fun a st hF=>wq<|bx st hF 0 rfl rfl fun g2 w1 a st hF=>bx st hF 2 rfl rfl fun g3 w2 a st hF=>?_
 refine oC hF rfl fun a hF=>oC hF rfl fun a hF=>ns<|wq<|oL hF st 3 1 bw rfl rfl rfl rfl fun a hF=>oL hF st 3 0 bi rfl rfl rfl rfl fun a hF=>cX st hF (rgc k18 (aF hF.p hF.o)) (eL y m l x u xa xb xc xd _) rfl fun w3 a st hF=>?_
 refine oA hF 0 rfl rfl fun a hF=>nq<|oM hF 0 rfl rfl fun a hF=>oT hF 0 (cB (c:=true) (aK hE)) rfl rfl fun a hF=>E.nil<|wp_cond_true hF.o<|wq ?_
 refine oM hF 2 rfl rfl fun a hF=>oS hF (aZ ao) rfl fun a hF=>oE hF 1 rfl rfl fun a hF=>nr ?_
 have bel:=st.bel
 refine bodyPost_ret (dT Tryz.results17 hF.p hF.o) hF.dfr ?_
 exact⟨rfl,bel⟩
theorem DB (y m:Int) (l:Bool) (x:Int) (u:Bool) (xa xb xc xd:Int) (w:World) (hT:bn w) (hok:cr xa xb xc xd) (hy0: -9000<=y) (hy1:y<=9000) (hm0:1<=m) (hm1:m<=12) (hx0:1<=x) (hx1:x<=30):
 CV 17 #[.agg #[iv y,iv m,.bool l,iv x,.bool u],.agg #[iv xa,iv xb,iv xc,iv xd]] w (.tuple #[iv (fdN xa xb xc xd y m l x u),iv (fdE xa xb xc xd y m l x u)]):=by
 have hma:dU y m x xa xb xc xd=0:=GR (rP hok) (by omega) (by omega)
 have hfe:=fun(M:Int) (h0:1<=M) (h1:M<=12)=>fR (y:=y) (m:=M) hy0 hy1 h0 h1
 obtain⟨fq,hfq⟩:∃q,fdB xa xb xc xd y m l x u=q:=⟨_,rfl⟩
 have hfi:∀n,fq n=true↔fdP xa xb xc xd y m l x u n:=by rw[<-hfq];exact fun n=>ph
 have hqq:∀n,fq n=true↔(amX n xa xb xc xd%30+1=x/\fq n=true):=fun n=>⟨fun h=>⟨((hfi n).1 h).2.2.2.2.2.1,h⟩,fun h=>h.2⟩
 have hfe1:=hfe m hm0 hm1
 refine gs2 (nt:=46) Tryz.func17 rfl rfl rfl fun a st hF=>wq<|bx st hF 0 rfl rfl fun g2 w1 a st hF=>bx st hF 2 rfl rfl fun g3 w2 a st hF=>?_
 refine oC hF rfl fun a hF=>oC hF rfl fun a hF=>ns<|wq<|oL hF st 3 1 bw rfl rfl rfl rfl fun a hF=>oL hF st 3 0 bi rfl rfl rfl rfl fun a hF=>cX st hF (rgc k18 (aF hF.p hF.o)) (eL y m l x u xa xb xc xd _) rfl fun w3 a st hF=>?_
 refine oA hF 0 rfl rfl fun a hF=>nq<|oM hF 0 rfl rfl fun a hF=>oT hF 0 (cB (c:=false) (aL (fun e=>e hma))) rfl rfl fun a hF=>E.nil<|wp_cond_false hF.o<|wp_skip<|E.norm<|wq ?_
 refine oV hF (Aj hZ (aF (hF.at 8 rfl) (hF.at 9 rfl))) rfl fun a hF=>oA hF 0 rfl rfl fun a hF=>ns<|wq<|oV hF (az (hF.at 11 rfl) (gF (p:=0) rfl)) rfl fun a hF=>oV hF (av hF.o (bD (v:= iv y) (st.bk 1 rfl) rfl)) rfl fun a hF=>oV hF (az (hF.at 13 rfl) (eQ (p:=1) rfl)) rfl fun a hF=>oV hF (av hF.o (aP (v:= iv m) (st.bk 1 rfl) rfl)) rfl fun a hF=>?_
 by_cases hc4:(fiL y m).length =0
 ·refine E.call hF (rgc k23 (aF hF.q hF.o)) (iT y m _ (hT.below st.bel) (by omega) (by omega) (by omega) (by omega)) rfl rfl rfl rfl ?_
  rintro e w5 ⟨ad0,cap0,rfl,_,bb⟩
  refine⟨_,rfl,?_⟩
  intro a hF
  rw[hc4] at hF
  replace st:=st.to bb
  clear bb
  refine oV hF (aW (aD hF.o) fw) rfl fun a hF=>oV hF (aB ao) rfl fun a hF=>E.nil<|wp_block ?_
  refine E.loop (fun mq a wv=>Fr 46 a [(25,iv 0),(24,iv 0),(23,.slice ad0 0 cap0),(7,.func (.func 45) #[] #[.pointer (some ⟨g3,0,none⟩),.pointer (some ⟨g2,0,none⟩)]),(3,.pointer (some ⟨g3,0,none⟩)),(2,.pointer (some ⟨g2,0,none⟩))]/\St w wv [(g3,[iv xa,iv xb,iv xc,iv xd]),(g2,[iv y,iv m,.bool l,iv x,.bool u])] []/\mq=0) (0) ?_ ?_
  ·exact⟨Fr.pick (L':=[(25,iv 0),(24,iv 0),(23,.slice ad0 0 cap0),(7,.func (.func 45) #[] #[.pointer (some ⟨g3,0,none⟩),.pointer (some ⟨g2,0,none⟩)]),(3,.pointer (some ⟨g3,0,none⟩)),(2,.pointer (some ⟨g2,0,none⟩))]) hF [0,1,2,7,17,18] rfl,st.pick [0,1] [] rfl rfl (by decide),rfl⟩
  ·rintro mq a w6 ⟨hF,st,hm⟩
   refine wq ?_
   refine oU hF 0 1 (a9 (c:=false) (by decide)) rfl rfl rfl fun a hF=>ns<|wp_cond_false hF.o<|wp_exit<|E.past<|E.past<|E.out (id:=0)<|E.norm<|wq ?_
   refine oC hF rfl fun a hF=>oC hF rfl fun a hF=>nr ?_
   have bel:=st.bel
   refine bodyPost_ret (dT Tryz.results17 hF.p hF.o) hF.dfr ?_
   have hfx:=uF (a:=xa) (b:=xb) (c:=xc) (d:=xd) (y:=y) (m:=m) (l:=l) (x:=x) (g:=u) (fun n p=>by obtain⟨j,hj,_⟩:=pJ (gL n xa xb xc xd) (sF p rfl);omega)
   exact⟨jp hfx.1 hfx.2,bel⟩
 ·obtain⟨N,hNe⟩:∃N,(fiL y m).length =N:=⟨_,rfl⟩
  have hN2:=sG y m
  rw[hNe] at hN2
  have hN0:N≠0:=by rw[<-hNe];exact hc4
  refine E.call hF (rgc k23 (aF hF.q hF.o)) (iT y m _ (hT.below st.bel) (by omega) (by omega) (by omega) (by omega)) rfl rfl rfl rfl ?_
  rintro e w7 ⟨_,cap,rfl,hia,bb⟩
  refine⟨_,rfl,?_⟩
  intro a hF
  rw[hNe] at hia hF
  obtain⟨gr,more,rfl,_,hge,hbk⟩:=hia.row (by omega)
  replace st:=(st.to bb).push hbk (Nat.le_trans st.bel.size hge) (st.ne hge)
  clear hia bb hbk hge
  refine oV hF (aW (aD hF.o) fw) rfl fun a hF=>oV hF (aB ao) rfl fun a hF=>E.nil<|wp_block ?_
  refine E.loop (fun mq a wv=>∃(i:Nat),i<=N/\(∀n,fdP xa xb xc xd y m l x u n->∃ii,i<=ii/\ii<N/\amL n xa xb xc xd=fiD y m ii)/\Fr 46 a [(25,iv ((i:Nat):Int)),(24,iv ((N:Nat):Int)),(23,.slice (some ⟨gr,0,none⟩) N cap),(7,.func (.func 45) #[] #[.pointer (some ⟨g3,0,none⟩),.pointer (some ⟨g2,0,none⟩)]),(3,.pointer (some ⟨g3,0,none⟩)),(2,.pointer (some ⟨g2,0,none⟩))]/\St w wv [(gr,fM (fiL y m)++more),(g3,[iv xa,iv xb,iv xc,iv xd]),(g2,[iv y,iv m,.bool l,iv x,.bool u])] []/\mq=N-i) ((N-0)) ?_ ?_
  ·exact⟨0,(Nat.zero_le _),(fun n p=>by obtain⟨ii,h1,h2⟩:=pJ (gL n xa xb xc xd) (sF p rfl);exact⟨ii,Nat.zero_le _,by omega,h2⟩),Fr.pick (L':=[(25,iv 0),(24,iv ((N:Nat):Int)),(23,.slice (some ⟨gr,0,none⟩) N cap),(7,.func (.func 45) #[] #[.pointer (some ⟨g3,0,none⟩),.pointer (some ⟨g2,0,none⟩)]),(3,.pointer (some ⟨g3,0,none⟩)),(2,.pointer (some ⟨g2,0,none⟩))]) hF [0,1,2,7,17,18] rfl,st.pick [0,1,2] [] rfl rfl (by decide),rfl⟩
  ·rintro mq a w8 ⟨i,hi2,hno,hF,st,hm⟩
   by_cases hlt:i<N
   ·have hil:=fun(h:i<N)=>(by rw[hNe];exact h:i<(fiL y m).length)
    have hfb:=vg (hil hlt)
    have hfs:=iy (l8 (hil hlt)).1
    clear hil
    refine wq ?_
    refine oU hF 0 1 (a9 (c:=true) (aK (by omega))) rfl rfl rfl fun a hF=>ns<|wp_cond_true hF.o<|wp_skip<|E.norm<|wp_seq<|wp_block<|wq<|oV hF (cf (hF.at 3 rfl) hF.p (s4 (i:=i) (by omega) (by omega))) rfl fun a hF=>oV hF (av hF.o (i8 (vs:=[iv ((fiD y m i)),iv (au (fiD y m i)),iv (smV (fiD y m i)%12),iv (smV (au (fiD y m i))%12)]) (st.bk 0 rfl) (l9 (fiL y m) more (by omega)) rfl)) rfl fun a hF=>S.new st hF 0 rfl bX rfl rfl rfl rfl rfl fun g9 w9 a st hF=>ns ?_
    refine wp_seq ?_
    refine E.rg 4 aG hF [29,30,31,32] [_,_,_,_] (by decide+kernel) rfl rfl rfl ⟨rb st bX 0 0 rfl,ck st k27 rfl fun _ s=>a7 (iY (fiD y m i) (au (fiD y m i)) (smV (fiD y m i)%12) (smV (au (fiD y m i))%12) _),rfd 9 (fun _=>vo (p:=2) rfl) rfl,rld rfl fun _ hb=>(kO (v:= .bool l) ((st.bk 3 rfl).below hb) rfl),trivial⟩ ?_
    intro a w10 hF bb hall
    replace st:=st.to bb
    replace hF:=rE hall hF 1 rfl rfl
    replace hF:=rE hall hF 3 rfl rfl
    clear hall bb
    by_cases hc11:decide ((smV (fiD y m i)%12)=(smV (au (fiD y m i))%12))=l
    ·refine oV hF (aq hF.p hF.o cy (dI (d:=false) (by rw[hc11];exact bne_self_eq_false l))) rfl fun a hF=>E.nil<|wp_cond_false hF.o<|wp_skip<|E.norm<|wq<|oL hF st 3 0 bX rfl rfl rfl rfl fun a hF=>oV hF (az (hF.at 13 rfl) (eo (p:=3) rfl)) rfl fun a hF=>oV hF (av hF.o (aP (v:= iv x) (st.bk 3 rfl) rfl)) rfl fun a hF=>oL hF st 14 2 bi rfl rfl rfl rfl fun a hF=>oM hF 14 rfl rfl fun a hF=>cX st hF (rgc k29 (Fm (hF.at 4 rfl) hF.q hF.p hF.o)) (xg (fiD y m i) (au (fiD y m i)) (smV (fiD y m i)%12) (smV (au (fiD y m i))%12) x xa xb xc xd fq fq _ _ _ (hT.below st.bel) hok (by omega) (by omega) (by omega) (by omega) hqq (MH xa xb xc xd y m l x u _ _ _ (hT.below st.bel) hok (st.bk 2 rfl) (st.bk 3 rfl) fq hfq)) rfl fun w12 a st hF=>?_
     refine oM hF 0 rfl rfl fun a hF=>oV hF (aM (v:= iv ((wiV fq ((fiD y m i)+(x-1)*63/64-4) 11).1)) hF.o rfl) rfl fun a hF=>oV hF (aM (v:= .bool ((wiV fq ((fiD y m i)+(x-1)*63/64-4) 11).2)) hF.p rfl) rfl fun a hF=>oA hF 1 rfl rfl fun a hF=>oA hF 1 rfl rfl fun a hF=>?_
     obtain⟨W,hW⟩:∃W,wiV fq ((fiD y m i)+(x-1)*63/64-4) 11=W:=⟨_,rfl⟩
     have hws:=xv fq 11 ((fiD y m i)+(x-1)*63/64-4)
     rw[hW] at hws hF
     refine nq<|oM hF 0 rfl rfl fun a hF=>E.nil ?_
     by_cases hc13:W.2=true
     ·refine wp_cond_true (Eq.trans hF.o (congrArg Value.bool hc13)) ?_
      refine wq ?_
      refine oM hF 2 rfl rfl fun a hF=>oA hF 0 rfl rfl fun a hF=>oC hF rfl fun a hF=>nr ?_
      have bel:=st.bel
      refine bodyPost_ret (dT Tryz.results17 hF.p hF.o) hF.dfr ?_
      have hp:=(hfi _).1 (hws.elim (fun h=>h.2) (fun h=>absurd (hc13.symm.trans h.1) (by decide)))
      have hfx:=xC hok hp
      exact⟨jp hfx.1 hfx.2,bel⟩
     ·refine wp_cond_false (Eq.trans hF.o (congrArg Value.bool (eq_false_of_ne_true hc13))) ?_
      refine wp_skip<|E.blk<|E.norm<|E.seq<|oV hF (aq (hF.at 19 rfl) ao aa (aO (by omega) (by omega))) rfl fun a hF=>oS hF (aB hF.o) rfl fun a hF=>E.nil0<|E.norm ?_
      replace hF:Fr 46 a [(25,iv ((i+1:Nat):Int)),(45,iv (((i:Nat):Int)+1)),(43,.bool (W.2)),(11,.bool (W.2)),(10,iv (W.1)),(42,.bool (W.2)),(41,iv (W.1)),(34,.tuple #[iv (W.1),.bool (W.2)]),(40,.tuple #[iv (W.1),.bool (W.2)]),(39,.func (.func 45) #[] #[.pointer (some ⟨g3,0,none⟩),.pointer (some ⟨g2,0,none⟩)]),(38,.agg #[iv xa,iv xb,iv xc,iv xd]),(37,iv x),(36,.pointer (some ⟨g2,3,none⟩)),(35,.agg #[iv (fiD y m i),iv (au (fiD y m i)),iv (smV (fiD y m i)%12),iv (smV (au (fiD y m i))%12)]),(33,.bool false),(32,.bool l),(30,.bool (decide ((smV (fiD y m i)%12)=(smV (au (fiD y m i))%12)))),(9,.pointer (some ⟨g9,0,none⟩)),(28,.agg #[iv (fiD y m i),iv (au (fiD y m i)),iv (smV (fiD y m i)%12),iv (smV (au (fiD y m i))%12)]),(27,.pointer (some ⟨gr,4*i,none⟩)),(26,.bool true),(24,iv ((N:Nat):Int)),(23,.slice (some ⟨gr,0,none⟩) N cap),(7,.func (.func 45) #[] #[.pointer (some ⟨g3,0,none⟩),.pointer (some ⟨g2,0,none⟩)]),(3,.pointer (some ⟨g3,0,none⟩)),(2,.pointer (some ⟨g2,0,none⟩))]:=by rw[show((i+1:Nat):Int)=((i:Nat):Int)+1 from by omega];exact hF
      exact⟨(N-(i+1)),by omega,⟨(i+1),(by omega),(fun n p=>by obtain⟨ii,h0,h1,e⟩:=hno n p;exact if z:ii=i then(by exfalso;have q:amL n xa xb xc xd=fiD y m i:=(by rw[<-z];exact e);have r:=sK hok p;rw[q] at r;exact absurd ((hfi n).2 p) (hws.elim (fun h=>absurd h.1 hc13) (fun h=>h.2.2 n (by omega) (by omega)))) else⟨ii,(by omega),h1,e⟩),Fr.pick (L':=[(25,iv ((i+1:Nat):Int)),(24,iv ((N:Nat):Int)),(23,.slice (some ⟨gr,0,none⟩) N cap),(7,.func (.func 45) #[] #[.pointer (some ⟨g3,0,none⟩),.pointer (some ⟨g2,0,none⟩)]),(3,.pointer (some ⟨g3,0,none⟩)),(2,.pointer (some ⟨g2,0,none⟩))]) hF [0,21,22,23,24,25] rfl,st.pick [1,2,3] [] rfl rfl (by decide),rfl⟩⟩
    ·refine oV hF (aq hF.p hF.o cy (dI (d:=true) (bne_iff_ne.2 hc11))) rfl fun a hF=>E.nil<|wp_cond_true hF.o<|wp_exit<|E.past<|E.out (id:=1)<|E.norm<|E.seq<|oV hF (aq (hF.at 7 rfl) ao aa (aO (by omega) (by omega))) rfl fun a hF=>oS hF (aB hF.o) rfl fun a hF=>E.nil0<|E.norm ?_
     replace hF:Fr 46 a [(25,iv ((i+1:Nat):Int)),(45,iv (((i:Nat):Int)+1)),(33,.bool true),(32,.bool l),(30,.bool (decide ((smV (fiD y m i)%12)=(smV (au (fiD y m i))%12)))),(9,.pointer (some ⟨g9,0,none⟩)),(28,.agg #[iv (fiD y m i),iv (au (fiD y m i)),iv (smV (fiD y m i)%12),iv (smV (au (fiD y m i))%12)]),(27,.pointer (some ⟨gr,4*i,none⟩)),(26,.bool true),(24,iv ((N:Nat):Int)),(23,.slice (some ⟨gr,0,none⟩) N cap),(7,.func (.func 45) #[] #[.pointer (some ⟨g3,0,none⟩),.pointer (some ⟨g2,0,none⟩)]),(3,.pointer (some ⟨g3,0,none⟩)),(2,.pointer (some ⟨g2,0,none⟩))]:=by rw[show((i+1:Nat):Int)=((i:Nat):Int)+1 from by omega];exact hF
     exact⟨(N-(i+1)),by omega,⟨(i+1),(by omega),(fun n p=>by obtain⟨ii,h0,h1,e⟩:=hno n p;exact if z:ii=i then(by exfalso;have q:amL n xa xb xc xd=fiD y m i:=(by rw[<-z];exact e);have r:=p.2.2.2.2.1;rw[q] at r;exact hc11 ((decide_eq_decide.2 (by omega)).trans r)) else⟨ii,(by omega),h1,e⟩),Fr.pick (L':=[(25,iv ((i+1:Nat):Int)),(24,iv ((N:Nat):Int)),(23,.slice (some ⟨gr,0,none⟩) N cap),(7,.func (.func 45) #[] #[.pointer (some ⟨g3,0,none⟩),.pointer (some ⟨g2,0,none⟩)]),(3,.pointer (some ⟨g3,0,none⟩)),(2,.pointer (some ⟨g2,0,none⟩))]) hF [0,9,10,11,12,13] rfl,st.pick [1,2,3] [] rfl rfl (by decide),rfl⟩⟩
   ·refine wp_seq<|E.seq ?_
    refine oU hF 0 1 (a9 (c:=false) (aL (by omega))) rfl rfl rfl fun a hF=>ns<|wp_cond_false hF.o<|wp_exit<|E.past<|E.past<|E.out (id:=0)<|E.norm<|wq ?_
    refine oC hF rfl fun a hF=>oC hF rfl fun a hF=>nr ?_
    have bel:=st.bel
    refine bodyPost_ret (dT Tryz.results17 hF.p hF.o) hF.dfr ?_
    have hfx:=uF (a:=xa) (b:=xb) (c:=xc) (d:=xd) (y:=y) (m:=m) (l:=l) (x:=x) (g:=u) (fun n p=>by obtain⟨j,h0,h1,_⟩:=hno n p;omega)
    exact⟨jp hfx.1 hfx.2,bel⟩
end Go.Proofs.YtddiipaomejcfaaGreatDoor
