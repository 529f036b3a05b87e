import Derived.Test.YtddiipaomejcfaaGreatDoorKA36
namespace Go.Proofs.YtddiipaomejcfaaGreatDoor
open Go.RowKit
set_option maxRecDepth 100000
set_option linter.unusedVariables false
set_option maxHeartbeats 8000000
theorem Em:(Tryz.f45.name == "runtime.NumGoroutine")=false/\Tryz.f45.body.isNone=false:=⟨by decide+kernel,by kernel_rfl⟩
theorem zf (n:Int) (xa xb xc xd y m:Int) (l:Bool) (x:Int) (u:Bool) (g0 g1:Nat) (w:World) (hT:a8 w) (hok:bz xa xb xc xd) (hn0: -3800000<=n) (hn1:n<=3800000) (h0:Blk w g0 [iv xa,iv xb,iv xc,iv xd]) (h1:Blk w g1 [iv y,iv m,.bool l,iv x,.bool u]):
 CV 45 #[iv n,.pointer (some ⟨g0,0,none⟩),.pointer (some ⟨g1,0,none⟩)] w (.bool (fdB xa xb xc xd y m l x u n)):=by
 refine gs3 (nt:=14) Tryz.func45 rfl rfl rfl fun a st hF=>wq ?_
 refine oC hF rfl fun a hF=>ns ?_
 by_cases hc1: -3000000<=n/\n<=3000000
 ·refine E.rg 7 aP hF [5,6,7,8,9,10,11] [_,_,.ex (.bool true),.ex (iv n),.ex (.agg #[iv xa,iv xb,iv xc,iv xd]),.ex (.agg #[iv ((smV (amL n xa xb xc xd)+1)/12-1955883044),iv ((smV (amL n xa xb xc xd)+1)%12+1),.bool (decide (smV (ag (amL n xa xb xc xd))=smV (amL n xa xb xc xd))),iv ((amX n xa xb xc xd)%30+1),.bool (decide ((amX (n-1) xa xb xc xd)=(amX n xa xb xc xd)))]),.ex (.agg #[iv y,iv m,.bool l,iv x,.bool u])] (by decide+kernel) rfl rfl rfl ⟨rm 1 rfl,ck st k44 rfl fun _ s=>a9 (nA n _ (by omega) (by omega)),(by intro a' w' hF' hb hd;have e6:=tE hd 0 rfl;exact dv0 (aC e6) rfl rfl rfl),(by intro a' w' hF' hb hd;have e7:=tE hd 0 rfl;exact dv1 (aJ rfl rfl e7 rfl) (aC (hF'.at 1 rfl)) rfl rfl),(by intro a' w' hF' hb hd;have e7:=tE hd 0 rfl;exact dv1 (aJ rfl rfl e7 rfl) (aw (hF'.at 2 rfl) (t9 (vs:=[iv xa,iv xb,iv xc,iv xd]) (h0.below (aR st.bel hb)) rfl rfl)) rfl rfl),(by intro a' w' hF' hb hd;have e7:=tE hd 2 rfl;have e8:=tE hd 0 rfl;have e9:=tE hd 1 rfl;exact vN (aJ rfl rfl e7 rfl) (rk Gt (aH e8 e9)) (fT n xa xb xc xd (amL n xa xb xc xd) (amX n xa xb xc xd) (amX (n-1) xa xb xc xd) _ (hT.below (aR st.bel hb)) (by first|assumption|constructor<;>omega) (by omega) (by omega) rfl rfl rfl) (fun _=>rfl) rfl),(by intro a' w' hF' hb hd;have e7:=tE hd 0 rfl;exact dv1 (aJ rfl rfl e7 rfl) (aw (hF'.at 3 rfl) (uJ (vs:=[iv y,iv m,.bool l,iv x,.bool u]) (h1.below (aR st.bel hb)) rfl rfl)) rfl rfl),trivial⟩ ?_
  intro a w2 hF bb hall
  replace st:=st.to bb
  replace hF:=rE hall hF 2 rfl rfl
  replace hF:=rE hall hF 5 rfl rfl
  replace hF:=rE hall hF 6 rfl rfl
  clear hall bb
  by_cases hc3:((smV (amL n xa xb xc xd)+1)/12-1955883044)=y/\((smV (amL n xa xb xc xd)+1)%12+1)=m/\(decide (smV (ag (amL n xa xb xc xd))=smV (amL n xa xb xc xd)))=l/\((amX n xa xb xc xd)%30+1)=x/\(decide ((amX (n-1) xa xb xc xd)=(amX n xa xb xc xd)))=u
  ·refine og hF (ao hF.p hF.o dq (dD (aA hc3))) 2 rfl rfl rfl fun a hF=>oV hF (aB (hF.at 3 rfl) hF.o) rfl fun a hF=>oE hF 0 rfl rfl fun a hF=>nr ?_
   have bel:=st.bel
   refine rt Tryz.results45 hF 0 rfl ?_
   have hb:fdB xa xb xc xd y m l x u n=true:=my.2 ⟨by omega,by omega,hc3.1,hc3.2.1,hc3.2.2.1,hc3.2.2.2.1,hc3.2.2.2.2⟩
   rw[hb]
   exact⟨rfl,bel⟩
  ·refine og hF (ao hF.p hF.o dq (dD (aK hc3))) 2 rfl rfl rfl fun a hF=>oV hF (aB (hF.at 3 rfl) hF.o) rfl fun a hF=>oE hF 0 rfl rfl fun a hF=>nr ?_
   have bel:=st.bel
   refine rt Tryz.results45 hF 0 rfl ?_
   have hb:fdB xa xb xc xd y m l x u n=false:=eq_false_of_ne_true fun e=>hc3 (my.1 e).2.2
   rw[hb]
   exact⟨rfl,bel⟩
 ·refine E.rg 7 aP hF [5,6,7,8,9,10,11] [_,_,.ex (.bool false),.ex undef,.ex undef,.ex undef,.ex undef] (by decide+kernel) rfl rfl rfl ⟨rm 1 rfl,ck st k44 rfl fun _ s=>a9 (pQ n _ (by omega)),(by intro a' w' hF' hb hd;have e6:=tE hd 0 rfl;exact dv0 (aC e6) rfl rfl rfl),(by intro a' w' hF' hb hd;have e7:=tE hd 0 rfl;exact dZ (aJ rfl rfl e7 rfl) ⟨rfl,by decide⟩),(by intro a' w' hF' hb hd;have e7:=tE hd 0 rfl;exact dZ (aJ rfl rfl e7 rfl) ⟨rfl,by decide⟩),(by intro a' w' hF' hb hd;have e7:=tE hd 2 rfl;exact dZ (aJ rfl rfl e7 rfl) ⟨rfl,by decide⟩),(by intro a' w' hF' hb hd;have e7:=tE hd 0 rfl;exact dZ (aJ rfl rfl e7 rfl) ⟨rfl,by decide⟩),trivial⟩ ?_
  intro a w4 hF bb hall
  replace st:=st.to bb
  replace hF:=rE hall hF 2 rfl rfl
  replace hF:=rE hall hF 5 rfl rfl
  replace hF:=rE hall hF 6 rfl rfl
  clear hall bb
  refine nu hF 2 rfl rfl rfl fun a hF=>oV hF (aX (hF.at 3 rfl) aq) rfl fun a hF=>oE hF 0 rfl rfl fun a hF=>nr ?_
  have bel:=st.bel
  refine rt Tryz.results45 hF 0 rfl ?_
  have hb:fdB xa xb xc xd y m l x u n=false:=eq_false_of_ne_true fun e=>(by have hx:=my.1 e;have hx0:=hx.1;have hx1:=hx.2.1;omega)
  rw[hb]
  exact⟨rfl,bel⟩
theorem FP (xa xb xc xd y m:Int) (l:Bool) (x:Int) (u:Bool) (g0 g1:Nat) (w:World) (hT:a8 w) (hok:bz xa xb xc xd) (h0:Blk w g0 [iv xa,iv xb,iv xc,iv xd]) (h1:Blk w g1 [iv y,iv m,.bool l,iv x,.bool u]) (fq:Int->Bool) (hfq:fdB xa xb xc xd y m l x u=fq):o0 w 45 #[.pointer (some ⟨g0,0,none⟩),.pointer (some ⟨g1,0,none⟩)] (-3800000) 3800000 fq:=by
 subst hfq
 exact⟨⟨_,Tryz.func45,Em.1,Em.2⟩,fun n w' hb a b=>zf n xa xb xc xd y m l x u g0 g1 w' (hT.below hb) hok a b (h0.below hb) (h1.below hb)⟩
theorem vK (y m:Int) (l:Bool) (x:Int) (u:Bool) (xa xb xc xd:Int) (w:World) (hE:d7 y m x xa xb xc xd≠0):
 CV 17 #[.agg #[iv y,iv m,.bool l,iv x,.bool u],.agg #[iv xa,iv xb,iv xc,iv xd]] w (.tuple #[iv (0),iv (d7 y m x xa xb xc xd)]):=by
 refine gs2 (nt:=46) Tryz.func17 rfl rfl rfl fun a st hF=>wq<|bx st hF 0 rfl rfl fun g2 w1 a st hF=>bx st hF 2 rfl rfl fun g3 w2 a st hF=>?_
 refine oC hF rfl fun a hF=>oC hF rfl fun a hF=>ns<|wq<|oL hF st 3 1 aG rfl rfl rfl rfl fun a hF=>oL hF st 3 0 aM rfl rfl rfl rfl fun a hF=>cX st hF (rgc k18 (aH hF.p hF.o)) (ix y m l x u xa xb xc xd _) rfl fun w3 a st hF=>?_
 refine oA hF 0 rfl rfl fun a hF=>nq<|oM hF 0 rfl rfl fun a hF=>oT hF 0 (bn (c:=true) (aA hE)) rfl rfl fun a hF=>E.nil<|wp_cond_true hF.o<|wq ?_
 refine oM hF 2 rfl rfl fun a hF=>oS hF (a5 aq) rfl fun a hF=>oE hF 1 rfl rfl fun a hF=>nr ?_
 have bel:=st.bel
 refine bodyPost_ret (de Tryz.results17 hF.p hF.o) hF.dfr ?_
 exact⟨rfl,bel⟩
theorem fj (y m:Int) (l:Bool) (x:Int) (u:Bool) (xa xb xc xd:Int) (w:World) (hT:a8 w) (hok:bz xa xb xc xd) (hy0: -9000<=y) (hy1:y<=9000) (hm0:1<=m) (hm1:m<=12) (hx0:1<=x) (hx1:x<=30):
 CV 17 #[.agg #[iv y,iv m,.bool l,iv x,.bool u],.agg #[iv xa,iv xb,iv xc,iv xd]] w (.tuple #[iv (fdN xa xb xc xd y m l x u),iv (fdE xa xb xc xd y m l x u)]):=by
 have hma:d7 y m x xa xb xc xd=0:=BD (vO hok) (by omega) (by omega)
 have hfe:=fun(M:Int) (h0:1<=M) (h1:M<=12)=>jj (y:=y) (m:=M) hy0 hy1 h0 h1
 obtain⟨fq,hfq⟩:∃q,fdB xa xb xc xd y m l x u=q:=⟨_,rfl⟩
 have hfi:∀n,fq n=true↔fdP xa xb xc xd y m l x u n:=by rw[<-hfq];exact fun n=>my
 have hqq:∀n,fq n=true↔(amX n xa xb xc xd%30+1=x/\fq n=true):=fun n=>⟨fun h=>⟨((hfi n).1 h).2.2.2.2.2.1,h⟩,fun h=>h.2⟩
 have hfe1:=hfe m hm0 hm1
 refine gs2 (nt:=46) Tryz.func17 rfl rfl rfl fun a st hF=>wq<|bx st hF 0 rfl rfl fun g2 w1 a st hF=>bx st hF 2 rfl rfl fun g3 w2 a st hF=>?_
 refine oC hF rfl fun a hF=>oC hF rfl fun a hF=>ns<|wq<|oL hF st 3 1 aG rfl rfl rfl rfl fun a hF=>oL hF st 3 0 aM rfl rfl rfl rfl fun a hF=>cX st hF (rgc k18 (aH hF.p hF.o)) (ix y m l x u xa xb xc xd _) rfl fun w3 a st hF=>?_
 refine oA hF 0 rfl rfl fun a hF=>nq<|oM hF 0 rfl rfl fun a hF=>oT hF 0 (bn (c:=false) (aK (fun e=>e hma))) rfl rfl fun a hF=>E.nil<|wp_cond_false hF.o<|wp_skip<|E.norm<|wq ?_
 refine oV hF (kU fk (aH (hF.at 8 rfl) (hF.at 9 rfl))) rfl fun a hF=>oA hF 0 rfl rfl fun a hF=>ns<|wq<|oV hF (az (hF.at 11 rfl) (kA (p:=0) rfl)) rfl fun a hF=>oV hF (aw hF.o (bG (v:= iv y) (st.bk 1 rfl) rfl)) rfl fun a hF=>oV hF (az (hF.at 13 rfl) (ce (p:=1) rfl)) rfl fun a hF=>oV hF (aw hF.o (bj (v:= iv m) (st.bk 1 rfl) rfl)) rfl fun a hF=>?_
 by_cases hc4:(fiL y m).length =0
 ·refine E.call hF (rgc k23 (aH hF.q hF.o)) (el y m _ (hT.below st.bel) (by omega) (by omega) (by omega) (by omega)) rfl rfl rfl rfl ?_
  rintro e w5 ⟨ad0,cap0,rfl,_,bb⟩
  refine⟨_,rfl,?_⟩
  intro a hF
  rw[hc4] at hF
  replace st:=st.to bb
  clear bb
  refine oV hF (bC (aL hF.o) f8) rfl fun a hF=>oV hF (aC aq) rfl fun a hF=>E.nil<|wp_block ?_
  refine E.loop (fun mq a wv=>Fr 46 a [(25,iv 0),(24,iv 0),(23,.slice ad0 0 cap0),(7,.func (.func 45) #[] #[.pointer (some ⟨g3,0,none⟩),.pointer (some ⟨g2,0,none⟩)]),(3,.pointer (some ⟨g3,0,none⟩)),(2,.pointer (some ⟨g2,0,none⟩))]/\St w wv [(g3,[iv xa,iv xb,iv xc,iv xd]),(g2,[iv y,iv m,.bool l,iv x,.bool u])] []/\mq=0) (0) ?_ ?_
  ·exact⟨Fr.pick (L':=[(25,iv 0),(24,iv 0),(23,.slice ad0 0 cap0),(7,.func (.func 45) #[] #[.pointer (some ⟨g3,0,none⟩),.pointer (some ⟨g2,0,none⟩)]),(3,.pointer (some ⟨g3,0,none⟩)),(2,.pointer (some ⟨g2,0,none⟩))]) hF [0,1,2,7,17,18] rfl,st.pick [0,1] [] rfl rfl (by decide),rfl⟩
  ·rintro mq a w6 ⟨hF,st,hm⟩
   refine wq ?_
   refine oU hF 0 1 (bD (c:=false) (by decide)) rfl rfl rfl fun a hF=>ns<|wp_cond_false hF.o<|wp_exit<|E.past<|E.past<|E.out (id:=0)<|E.norm<|wq ?_
   refine oC hF rfl fun a hF=>oC hF rfl fun a hF=>nr ?_
   have bel:=st.bel
   refine bodyPost_ret (de Tryz.results17 hF.p hF.o) hF.dfr ?_
   have hfx:=A8 (a:=xa) (b:=xb) (c:=xc) (d:=xd) (y:=y) (m:=m) (l:=l) (x:=x) (g:=u) (fun n p=>by obtain⟨j,hj,_⟩:=ms (dA n xa xb xc xd) (u6 p rfl);omega)
   exact⟨kg hfx.1 hfx.2,bel⟩
 ·obtain⟨N,hNe⟩:∃N,(fiL y m).length =N:=⟨_,rfl⟩
  have hN2:=pw y m
  rw[hNe] at hN2
  have hN0:N≠0:=by rw[<-hNe];exact hc4
  refine E.call hF (rgc k23 (aH hF.q hF.o)) (el y m _ (hT.below st.bel) (by omega) (by omega) (by omega) (by omega)) rfl rfl rfl rfl ?_
  rintro e w7 ⟨_,cap,rfl,hia,bb⟩
  refine⟨_,rfl,?_⟩
  intro a hF
  rw[hNe] at hia hF
  obtain⟨gr,more,rfl,_,hge,hbk⟩:=hia.row (by omega)
  replace st:=(st.to bb).push hbk (Nat.le_trans st.bel.size hge) (st.ne hge)
  clear hia bb hbk hge
  refine oV hF (bC (aL hF.o) f8) rfl fun a hF=>oV hF (aC aq) rfl fun a hF=>E.nil<|wp_block ?_
  refine E.loop (fun mq a wv=>∃(i:Nat),i<=N/\(∀n,fdP xa xb xc xd y m l x u n->∃ii,i<=ii/\ii<N/\amL n xa xb xc xd=fiD y m ii)/\Fr 46 a [(25,iv ((i:Nat):Int)),(24,iv ((N:Nat):Int)),(23,.slice (some ⟨gr,0,none⟩) N cap),(7,.func (.func 45) #[] #[.pointer (some ⟨g3,0,none⟩),.pointer (some ⟨g2,0,none⟩)]),(3,.pointer (some ⟨g3,0,none⟩)),(2,.pointer (some ⟨g2,0,none⟩))]/\St w wv [(gr,ga (fiL y m)++more),(g3,[iv xa,iv xb,iv xc,iv xd]),(g2,[iv y,iv m,.bool l,iv x,.bool u])] []/\mq=N-i) ((N-0)) ?_ ?_
  ·exact⟨0,(Nat.zero_le _),(fun n p=>by obtain⟨ii,h1,h2⟩:=ms (dA n xa xb xc xd) (u6 p rfl);exact⟨ii,Nat.zero_le _,by omega,h2⟩),Fr.pick (L':=[(25,iv 0),(24,iv ((N:Nat):Int)),(23,.slice (some ⟨gr,0,none⟩) N cap),(7,.func (.func 45) #[] #[.pointer (some ⟨g3,0,none⟩),.pointer (some ⟨g2,0,none⟩)]),(3,.pointer (some ⟨g3,0,none⟩)),(2,.pointer (some ⟨g2,0,none⟩))]) hF [0,1,2,7,17,18] rfl,st.pick [0,1,2] [] rfl rfl (by decide),rfl⟩
  ·rintro mq a w8 ⟨i,hi2,hno,hF,st,hm⟩
   by_cases hlt:i<N
   ·have hil:=fun(h:i<N)=>(by rw[hNe];exact h:i<(fiL y m).length)
    have hfb:=sf (hil hlt)
    have hfs:=fc (qN (hil hlt)).1
    clear hil
    refine wq ?_
    refine oU hF 0 1 (bD (c:=true) (aA (by omega))) rfl rfl rfl fun a hF=>ns<|wp_cond_true hF.o<|wp_skip<|E.norm<|wp_seq<|wp_block<|wq<|oV hF (fH (hF.at 3 rfl) hF.p (mt (i:=i) (by omega) (by omega))) rfl fun a hF=>oV hF (aw hF.o (gb (vs:=[iv ((fiD y m i)),iv (ag (fiD y m i)),iv (smV (fiD y m i)%12),iv (smV (ag (fiD y m i))%12)]) (st.bk 0 rfl) (lY (fiL y m) more (by omega)) rfl)) rfl fun a hF=>S.new st hF 0 rfl bw rfl rfl rfl rfl rfl fun g9 w9 a st hF=>ns ?_
    refine wp_seq ?_
    refine E.rg 4 aP hF [29,30,31,32] [_,_,_,_] (by decide+kernel) rfl rfl rfl ⟨rb st bw 0 0 rfl,ck st k27 rfl fun _ s=>a9 (fF (fiD y m i) (ag (fiD y m i)) (smV (fiD y m i)%12) (smV (ag (fiD y m i))%12) _),rfd 9 (fun _=>d8 (p:=2) rfl) rfl,rld rfl fun _ hb=>(fB (v:= .bool l) ((st.bk 3 rfl).below hb) rfl),trivial⟩ ?_
    intro a w10 hF bb hall
    replace st:=st.to bb
    replace hF:=rE hall hF 1 rfl rfl
    replace hF:=rE hall hF 3 rfl rfl
    clear hall bb
    by_cases hc11:decide ((smV (fiD y m i)%12)=(smV (ag (fiD y m i))%12))=l
    ·refine oV hF (ao hF.p hF.o dI (ff (d:=false) (by rw[hc11];exact bne_self_eq_false l))) rfl fun a hF=>E.nil<|wp_cond_false hF.o<|wp_skip<|E.norm<|wq<|oL hF st 3 0 bw rfl rfl rfl rfl fun a hF=>oV hF (az (hF.at 13 rfl) (cS (p:=3) rfl)) rfl fun a hF=>oV hF (aw hF.o (bj (v:= iv x) (st.bk 3 rfl) rfl)) rfl fun a hF=>oL hF st 14 2 aM rfl rfl rfl rfl fun a hF=>oM hF 14 rfl rfl fun a hF=>cX st hF (rgc k29 (zi (hF.at 4 rfl) hF.q hF.p hF.o)) (lr (fiD y m i) (ag (fiD y m i)) (smV (fiD y m i)%12) (smV (ag (fiD y m i))%12) x xa xb xc xd fq fq _ _ _ (hT.below st.bel) hok (by omega) (by omega) (by omega) (by omega) hqq (FP xa xb xc xd y m l x u _ _ _ (hT.below st.bel) hok (st.bk 2 rfl) (st.bk 3 rfl) fq hfq)) rfl fun w12 a st hF=>?_
     refine oM hF 0 rfl rfl fun a hF=>oV hF (av (v:= iv ((wiV fq ((fiD y m i)+(x-1)*63/64-4) 11).1)) hF.o rfl) rfl fun a hF=>oV hF (av (v:= .bool ((wiV fq ((fiD y m i)+(x-1)*63/64-4) 11).2)) hF.p rfl) rfl fun a hF=>oA hF 1 rfl rfl fun a hF=>oA hF 1 rfl rfl fun a hF=>?_
     obtain⟨W,hW⟩:∃W,wiV fq ((fiD y m i)+(x-1)*63/64-4) 11=W:=⟨_,rfl⟩
     have hws:=m8 fq 11 ((fiD y m i)+(x-1)*63/64-4)
     rw[hW] at hws hF
     refine nq<|oM hF 0 rfl rfl fun a hF=>E.nil ?_
     by_cases hc13:W.2=true
     ·refine wp_cond_true (Eq.trans hF.o (congrArg Value.bool hc13)) ?_
      refine wq ?_
      refine oM hF 2 rfl rfl fun a hF=>oA hF 0 rfl rfl fun a hF=>oC hF rfl fun a hF=>nr ?_
      have bel:=st.bel
      refine bodyPost_ret (de Tryz.results17 hF.p hF.o) hF.dfr ?_
      have hp:=(hfi _).1 (hws.elim (fun h=>h.2) (fun h=>absurd (hc13.symm.trans h.1) (by decide)))
      have hfx:=wZ hok hp
      exact⟨kg hfx.1 hfx.2,bel⟩
     ·refine wp_cond_false (Eq.trans hF.o (congrArg Value.bool (eq_false_of_ne_true hc13))) ?_
      refine wp_skip<|E.blk<|E.norm<|E.seq<|oV hF (ao (hF.at 19 rfl) aq ah (aU (by omega) (by omega))) rfl fun a hF=>oS hF (aC hF.o) rfl fun a hF=>E.nil0<|E.norm ?_
      replace hF:Fr 46 a [(25,iv ((i+1:Nat):Int)),(45,iv (((i:Nat):Int)+1)),(43,.bool (W.2)),(11,.bool (W.2)),(10,iv (W.1)),(42,.bool (W.2)),(41,iv (W.1)),(34,.tuple #[iv (W.1),.bool (W.2)]),(40,.tuple #[iv (W.1),.bool (W.2)]),(39,.func (.func 45) #[] #[.pointer (some ⟨g3,0,none⟩),.pointer (some ⟨g2,0,none⟩)]),(38,.agg #[iv xa,iv xb,iv xc,iv xd]),(37,iv x),(36,.pointer (some ⟨g2,3,none⟩)),(35,.agg #[iv (fiD y m i),iv (ag (fiD y m i)),iv (smV (fiD y m i)%12),iv (smV (ag (fiD y m i))%12)]),(33,.bool false),(32,.bool l),(30,.bool (decide ((smV (fiD y m i)%12)=(smV (ag (fiD y m i))%12)))),(9,.pointer (some ⟨g9,0,none⟩)),(28,.agg #[iv (fiD y m i),iv (ag (fiD y m i)),iv (smV (fiD y m i)%12),iv (smV (ag (fiD y m i))%12)]),(27,.pointer (some ⟨gr,4*i,none⟩)),(26,.bool true),(24,iv ((N:Nat):Int)),(23,.slice (some ⟨gr,0,none⟩) N cap),(7,.func (.func 45) #[] #[.pointer (some ⟨g3,0,none⟩),.pointer (some ⟨g2,0,none⟩)]),(3,.pointer (some ⟨g3,0,none⟩)),(2,.pointer (some ⟨g2,0,none⟩))]:=by rw[show((i+1:Nat):Int)=((i:Nat):Int)+1 from by omega];exact hF
      exact⟨(N-(i+1)),by omega,⟨(i+1),(by omega),(fun n p=>by obtain⟨ii,h0,h1,e⟩:=hno n p;exact if z:ii=i then(by exfalso;have q:amL n xa xb xc xd=fiD y m i:=(by rw[<-z];exact e);have r:=tY hok p;rw[q] at r;exact absurd ((hfi n).2 p) (hws.elim (fun h=>absurd h.1 hc13) (fun h=>h.2.2 n (by omega) (by omega)))) else⟨ii,(by omega),h1,e⟩),Fr.pick (L':=[(25,iv ((i+1:Nat):Int)),(24,iv ((N:Nat):Int)),(23,.slice (some ⟨gr,0,none⟩) N cap),(7,.func (.func 45) #[] #[.pointer (some ⟨g3,0,none⟩),.pointer (some ⟨g2,0,none⟩)]),(3,.pointer (some ⟨g3,0,none⟩)),(2,.pointer (some ⟨g2,0,none⟩))]) hF [0,21,22,23,24,25] rfl,st.pick [1,2,3] [] rfl rfl (by decide),rfl⟩⟩
    ·refine oV hF (ao hF.p hF.o dI (ff (d:=true) (bne_iff_ne.2 hc11))) rfl fun a hF=>E.nil<|wp_cond_true hF.o<|wp_exit<|E.past<|E.out (id:=1)<|E.norm<|E.seq<|oV hF (ao (hF.at 7 rfl) aq ah (aU (by omega) (by omega))) rfl fun a hF=>oS hF (aC hF.o) rfl fun a hF=>E.nil0<|E.norm ?_
     replace hF:Fr 46 a [(25,iv ((i+1:Nat):Int)),(45,iv (((i:Nat):Int)+1)),(33,.bool true),(32,.bool l),(30,.bool (decide ((smV (fiD y m i)%12)=(smV (ag (fiD y m i))%12)))),(9,.pointer (some ⟨g9,0,none⟩)),(28,.agg #[iv (fiD y m i),iv (ag (fiD y m i)),iv (smV (fiD y m i)%12),iv (smV (ag (fiD y m i))%12)]),(27,.pointer (some ⟨gr,4*i,none⟩)),(26,.bool true),(24,iv ((N:Nat):Int)),(23,.slice (some ⟨gr,0,none⟩) N cap),(7,.func (.func 45) #[] #[.pointer (some ⟨g3,0,none⟩),.pointer (some ⟨g2,0,none⟩)]),(3,.pointer (some ⟨g3,0,none⟩)),(2,.pointer (some ⟨g2,0,none⟩))]:=by rw[show((i+1:Nat):Int)=((i:Nat):Int)+1 from by omega];exact hF
     exact⟨(N-(i+1)),by omega,⟨(i+1),(by omega),(fun n p=>by obtain⟨ii,h0,h1,e⟩:=hno n p;exact if z:ii=i then(by exfalso;have q:amL n xa xb xc xd=fiD y m i:=(by rw[<-z];exact e);have r:=p.2.2.2.2.1;rw[q] at r;exact hc11 ((decide_eq_decide.2 (by omega)).trans r)) else⟨ii,(by omega),h1,e⟩),Fr.pick (L':=[(25,iv ((i+1:Nat):Int)),(24,iv ((N:Nat):Int)),(23,.slice (some ⟨gr,0,none⟩) N cap),(7,.func (.func 45) #[] #[.pointer (some ⟨g3,0,none⟩),.pointer (some ⟨g2,0,none⟩)]),(3,.pointer (some ⟨g3,0,none⟩)),(2,.pointer (some ⟨g2,0,none⟩))]) hF [0,9,10,11,12,13] rfl,st.pick [1,2,3] [] rfl rfl (by decide),rfl⟩⟩
   ·refine wp_seq<|E.seq ?_
    refine oU hF 0 1 (bD (c:=false) (aK (by omega))) rfl rfl rfl fun a hF=>ns<|wp_cond_false hF.o<|wp_exit<|E.past<|E.past<|E.out (id:=0)<|E.norm<|wq ?_
    refine oC hF rfl fun a hF=>oC hF rfl fun a hF=>nr ?_
    have bel:=st.bel
    refine bodyPost_ret (de Tryz.results17 hF.p hF.o) hF.dfr ?_
    have hfx:=A8 (a:=xa) (b:=xb) (c:=xc) (d:=xd) (y:=y) (m:=m) (l:=l) (x:=x) (g:=u) (fun n p=>by obtain⟨j,h0,h1,_⟩:=hno n p;omega)
    exact⟨kg hfx.1 hfx.2,bel⟩
end Go.Proofs.YtddiipaomejcfaaGreatDoor
