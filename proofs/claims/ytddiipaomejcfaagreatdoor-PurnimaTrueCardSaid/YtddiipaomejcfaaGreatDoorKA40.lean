import Derived.Test.YtddiipaomejcfaaGreatDoorKA37
import Derived.Test.YtddiipaomejcfaaGreatDoorKA38
import Derived.Test.YtddiipaomejcfaaGreatDoorKA39
namespace Go.Proofs.YtddiipaomejcfaaGreatDoor
open Go.RowKit
set_option maxRecDepth 100000
set_option linter.unusedVariables false
set_option maxHeartbeats 8000000
theorem EQ:(Tryz.f73.name == "runtime.NumGoroutine")=false/\Tryz.f73.body.isNone=false:=⟨by decide+kernel,by kernel_rfl⟩
theorem AQ (n:Int) (xa xb xc xd y m:Int) (l:Bool) (x:Int) (u:Bool) (g0 g1:Nat) (w:World) (hT:a8 w) (hok:bz xa xb xc xd) (hn0: -3800000<=n) (hn1:n<=3800000) (h0:Blk w g0 [iv xa,iv xb,iv xc,iv xd]) (h1:Blk w g1 [iv y,iv m,.bool l,iv x,.bool u]):
 CV 73 #[iv n,.pointer (some ⟨g0,0,none⟩),.pointer (some ⟨g1,0,none⟩)] w (.bool (puB xa xb xc xd y m l x u n)):=by
 refine gs3 (nt:=14) Tryz.func73 rfl rfl rfl fun a st hF=>wq ?_
 refine oC hF rfl fun a hF=>ns ?_
 by_cases hc1: -3000000<=n/\n<=3000000
 ·refine E.rg 7 aP hF [5,6,7,8,9,10,11] [_,_,.ex (.bool true),.ex (iv n),.ex (.agg #[iv xa,iv xb,iv xc,iv xd]),.ex (.agg #[iv ((smV (amL n xa xb xc xd)+1)/12-1955883044),iv (puM (amL n xa xb xc xd) (amX n xa xb xc xd)),.bool (decide (smV (ag (amL n xa xb xc xd))=smV (amL n xa xb xc xd))),iv ((amX n xa xb xc xd)%30+1),.bool (decide ((amX (n-1) xa xb xc xd)=(amX n xa xb xc xd)))]),.ex (.agg #[iv y,iv m,.bool l,iv x,.bool u])] (by decide+kernel) rfl rfl rfl ⟨rm 1 rfl,ck st k44 rfl fun _ s=>a9 (nA n _ (by omega) (by omega)),(by intro a' w' hF' hb hd;have e6:=tE hd 0 rfl;exact dv0 (aC e6) rfl rfl rfl),(by intro a' w' hF' hb hd;have e7:=tE hd 0 rfl;exact dv1 (aJ rfl rfl e7 rfl) (aC (hF'.at 1 rfl)) rfl rfl),(by intro a' w' hF' hb hd;have e7:=tE hd 0 rfl;exact dv1 (aJ rfl rfl e7 rfl) (aw (hF'.at 2 rfl) (t9 (vs:=[iv xa,iv xb,iv xc,iv xd]) (h0.below (aR st.bel hb)) rfl rfl)) rfl rfl),(by intro a' w' hF' hb hd;have e7:=tE hd 2 rfl;have e8:=tE hd 0 rfl;have e9:=tE hd 1 rfl;exact vN (aJ rfl rfl e7 rfl) (rk Gv (aH e8 e9)) (ie n xa xb xc xd (amL n xa xb xc xd) (amX n xa xb xc xd) (amX (n-1) xa xb xc xd) _ (hT.below (aR st.bel hb)) (by first|assumption|constructor<;>omega) (by omega) (by omega) rfl rfl rfl) (fun _=>rfl) rfl),(by intro a' w' hF' hb hd;have e7:=tE hd 0 rfl;exact dv1 (aJ rfl rfl e7 rfl) (aw (hF'.at 3 rfl) (uJ (vs:=[iv y,iv m,.bool l,iv x,.bool u]) (h1.below (aR st.bel hb)) rfl rfl)) rfl rfl),trivial⟩ ?_
  intro a w2 hF bb hall
  replace st:=st.to bb
  replace hF:=rE hall hF 2 rfl rfl
  replace hF:=rE hall hF 5 rfl rfl
  replace hF:=rE hall hF 6 rfl rfl
  clear hall bb
  by_cases hc3:((smV (amL n xa xb xc xd)+1)/12-1955883044)=y/\(puM (amL n xa xb xc xd) (amX n xa xb xc xd))=m/\(decide (smV (ag (amL n xa xb xc xd))=smV (amL n xa xb xc xd)))=l/\((amX n xa xb xc xd)%30+1)=x/\(decide ((amX (n-1) xa xb xc xd)=(amX n xa xb xc xd)))=u
  ·refine og hF (ao hF.p hF.o dq (dD (aA hc3))) 2 rfl rfl rfl fun a hF=>oV hF (aB (hF.at 3 rfl) hF.o) rfl fun a hF=>oE hF 0 rfl rfl fun a hF=>nr ?_
   have bel:=st.bel
   refine rt Tryz.results73 hF 0 rfl ?_
   have hb:puB xa xb xc xd y m l x u n=true:=lZ.2 ⟨by omega,by omega,hc3.1,hc3.2.1,hc3.2.2.1,hc3.2.2.2.1,hc3.2.2.2.2⟩
   rw[hb]
   exact⟨rfl,bel⟩
  ·refine og hF (ao hF.p hF.o dq (dD (aK hc3))) 2 rfl rfl rfl fun a hF=>oV hF (aB (hF.at 3 rfl) hF.o) rfl fun a hF=>oE hF 0 rfl rfl fun a hF=>nr ?_
   have bel:=st.bel
   refine rt Tryz.results73 hF 0 rfl ?_
   have hb:puB xa xb xc xd y m l x u n=false:=eq_false_of_ne_true fun e=>hc3 (lZ.1 e).2.2
   rw[hb]
   exact⟨rfl,bel⟩
 ·refine E.rg 7 aP hF [5,6,7,8,9,10,11] [_,_,.ex (.bool false),.ex undef,.ex undef,.ex undef,.ex undef] (by decide+kernel) rfl rfl rfl ⟨rm 1 rfl,ck st k44 rfl fun _ s=>a9 (pQ n _ (by omega)),(by intro a' w' hF' hb hd;have e6:=tE hd 0 rfl;exact dv0 (aC e6) rfl rfl rfl),(by intro a' w' hF' hb hd;have e7:=tE hd 0 rfl;exact dZ (aJ rfl rfl e7 rfl) ⟨rfl,by decide⟩),(by intro a' w' hF' hb hd;have e7:=tE hd 0 rfl;exact dZ (aJ rfl rfl e7 rfl) ⟨rfl,by decide⟩),(by intro a' w' hF' hb hd;have e7:=tE hd 2 rfl;exact dZ (aJ rfl rfl e7 rfl) ⟨rfl,by decide⟩),(by intro a' w' hF' hb hd;have e7:=tE hd 0 rfl;exact dZ (aJ rfl rfl e7 rfl) ⟨rfl,by decide⟩),trivial⟩ ?_
  intro a w4 hF bb hall
  replace st:=st.to bb
  replace hF:=rE hall hF 2 rfl rfl
  replace hF:=rE hall hF 5 rfl rfl
  replace hF:=rE hall hF 6 rfl rfl
  clear hall bb
  refine nu hF 2 rfl rfl rfl fun a hF=>oV hF (aX (hF.at 3 rfl) aq) rfl fun a hF=>oE hF 0 rfl rfl fun a hF=>nr ?_
  have bel:=st.bel
  refine rt Tryz.results73 hF 0 rfl ?_
  have hb:puB xa xb xc xd y m l x u n=false:=eq_false_of_ne_true fun e=>(by have hx:=lZ.1 e;have hx0:=hx.1;have hx1:=hx.2.1;omega)
  rw[hb]
  exact⟨rfl,bel⟩
theorem FC (xa xb xc xd y m:Int) (l:Bool) (x:Int) (u:Bool) (g0 g1:Nat) (w:World) (hT:a8 w) (hok:bz xa xb xc xd) (h0:Blk w g0 [iv xa,iv xb,iv xc,iv xd]) (h1:Blk w g1 [iv y,iv m,.bool l,iv x,.bool u]) (fq:Int->Bool) (hfq:puB xa xb xc xd y m l x u=fq):o0 w 73 #[.pointer (some ⟨g0,0,none⟩),.pointer (some ⟨g1,0,none⟩)] (-3800000) 3800000 fq:=by
 subst hfq
 exact⟨⟨_,Tryz.func73,EQ.1,EQ.2⟩,fun n w' hb a b=>AQ n xa xb xc xd y m l x u g0 g1 w' (hT.below hb) hok a b (h0.below hb) (h1.below hb)⟩
theorem nQ (y m:Int) (l:Bool) (x:Int) (u:Bool) (xa xb xc xd:Int) (w:World) (hE:d7 y m x xa xb xc xd≠0):
 CV 36 #[.agg #[iv y,iv m,.bool l,iv x,.bool u],.agg #[iv xa,iv xb,iv xc,iv xd]] w (.tuple #[iv (0),iv (d7 y m x xa xb xc xd)]):=by
 refine gs2 (nt:=64) Tryz.func36 rfl rfl rfl fun a st hF=>wq<|bx st hF 0 rfl rfl fun g2 w1 a st hF=>bx st hF 2 rfl rfl fun g3 w2 a st hF=>?_
 refine oC hF rfl fun a hF=>oC hF rfl fun a hF=>ns<|wq<|oL hF st 3 1 aG rfl rfl rfl rfl fun a hF=>oL hF st 3 0 aM rfl rfl rfl rfl fun a hF=>cX st hF (rgc k18 (aH hF.p hF.o)) (ix y m l x u xa xb xc xd _) rfl fun w3 a st hF=>?_
 refine oA hF 0 rfl rfl fun a hF=>nq<|oM hF 0 rfl rfl fun a hF=>oT hF 0 (bn (c:=true) (aA hE)) rfl rfl fun a hF=>E.nil<|wp_cond_true hF.o<|wq ?_
 refine oM hF 2 rfl rfl fun a hF=>oS hF (a5 aq) rfl fun a hF=>oE hF 1 rfl rfl fun a hF=>nr ?_
 have bel:=st.bel
 refine bodyPost_ret (de Tryz.results36 hF.p hF.o) hF.dfr ?_
 exact⟨rfl,bel⟩
theorem fu (y m:Int) (l:Bool) (x:Int) (u:Bool) (xa xb xc xd:Int) (w:World) (hT:a8 w) (hok:bz xa xb xc xd) (hy0: -9000<=y) (hy1:y<=9000) (hm0:1<=m) (hm1:m<=12) (hx0:1<=x) (hx1:x<=30):
 CV 36 #[.agg #[iv y,iv m,.bool l,iv x,.bool u],.agg #[iv xa,iv xb,iv xc,iv xd]] w (.tuple #[iv (puN xa xb xc xd y m l x u),iv (puE xa xb xc xd y m l x u)]):=by
 have hma:d7 y m x xa xb xc xd=0:=BD (vO hok) (by omega) (by omega)
 have hfe:=fun(M:Int) (h0:1<=M) (h1:M<=12)=>jj (y:=y) (m:=M) hy0 hy1 h0 h1
 obtain⟨fq,hfq⟩:∃q,puB xa xb xc xd y m l x u=q:=⟨_,rfl⟩
 have hfi:∀n,fq n=true↔puP xa xb xc xd y m l x u n:=by rw[<-hfq];exact fun n=>lZ
 have hqq:∀n,fq n=true↔(amX n xa xb xc xd%30+1=x/\fq n=true):=fun n=>⟨fun h=>⟨((hfi n).1 h).2.2.2.2.2.1,h⟩,fun h=>h.2⟩
 refine gs2 (nt:=64) Tryz.func36 rfl rfl rfl fun a st hF=>wq<|bx st hF 0 rfl rfl fun g2 w1 a st hF=>bx st hF 2 rfl rfl fun g3 w2 a st hF=>?_
 refine oC hF rfl fun a hF=>oC hF rfl fun a hF=>ns<|wq<|oL hF st 3 1 aG rfl rfl rfl rfl fun a hF=>oL hF st 3 0 aM rfl rfl rfl rfl fun a hF=>cX st hF (rgc k18 (aH hF.p hF.o)) (ix y m l x u xa xb xc xd _) rfl fun w3 a st hF=>?_
 refine oA hF 0 rfl rfl fun a hF=>nq<|oM hF 0 rfl rfl fun a hF=>oT hF 0 (bn (c:=false) (aK (fun e=>e hma))) rfl rfl fun a hF=>E.nil<|wp_cond_false hF.o<|wp_skip<|E.norm<|wq ?_
 refine oV hF (kU fk (aH (hF.at 8 rfl) (hF.at 9 rfl))) rfl fun a hF=>oA hF 0 rfl rfl fun a hF=>ns<|wq<|oL hF st 11 1 aG rfl rfl rfl rfl fun a hF=>?_
 obtain⟨K,hK⟩:∃K,(puL m l x).length =K:=⟨_,rfl⟩
 have hK2:=Cw m l x
 rw[hK] at hK2
 refine E.call hF (rgc k74 (aL hF.o)) (qr y m l x u _ hm0 hm1) rfl rfl rfl rfl ?_
 rintro e w4 ⟨gn,rfl,hge,hbk,bb⟩
 refine⟨_,rfl,?_⟩
 intro a hF
 rw[hK] at hF
 replace st:=(st.to bb).push hbk (Nat.le_trans st.bel.size hge) (st.ne hge)
 clear bb hbk hge
 refine oV hF (bC (aL hF.o) CJ) rfl fun a hF=>oV hF (aC aq) rfl fun a hF=>E.nil<|wp_block ?_
 refine E.loop (fun mq a wv=>∃(j:Nat),j<=K/\(∀n,puP xa xb xc xd y m l x u n->∃i,j<=i/\i<K/\smV (amL n xa xb xc xd)=fiS y (puG m l x i))/\Fr 64 a [(24,iv ((j:Nat):Int)),(23,iv ((K:Nat):Int)),(22,.slice (some ⟨gn,0,none⟩) K K),(7,.func (.func 73) #[] #[.pointer (some ⟨g3,0,none⟩),.pointer (some ⟨g2,0,none⟩)]),(3,.pointer (some ⟨g3,0,none⟩)),(2,.pointer (some ⟨g2,0,none⟩))]/\St w wv [(gn,(puL m l x).map fun z=>Value.int .i64 z),(g3,[iv xa,iv xb,iv xc,iv xd]),(g2,[iv y,iv m,.bool l,iv x,.bool u])] []/\mq=K-j) ((K-0)) ?_ ?_
 ·exact⟨0,(Nat.zero_le _),(fun n p=>by obtain⟨i,h1,h2⟩:=Eg p;exact⟨i,Nat.zero_le _,by omega,h2⟩),Fr.pick (L':=[(24,iv 0),(23,iv ((K:Nat):Int)),(22,.slice (some ⟨gn,0,none⟩) K K),(7,.func (.func 73) #[] #[.pointer (some ⟨g3,0,none⟩),.pointer (some ⟨g2,0,none⟩)]),(3,.pointer (some ⟨g3,0,none⟩)),(2,.pointer (some ⟨g2,0,none⟩))]) hF [0,1,2,4,14,15] rfl,st.pick [0,1,2] [] rfl rfl (by decide),rfl⟩
 ·rintro mq a w5 ⟨j,hj2,hno,hF,st,hm⟩
  by_cases hlj:j<K
  ·have hgb:=Fa (x:=x) (l:=l) (i:=j) hm0 hm1 (by rw[hK];exact hlj)
   have hfe2:=hfe (puG m l x j) hgb.1 hgb.2
   refine wq ?_
   refine oU hF 0 1 (bD (c:=true) (aA (by omega))) rfl rfl rfl fun a hF=>ns<|wp_cond_true hF.o<|wp_skip<|E.norm ?_
   refine E.mid (I:=fun a wv=>(∀n,puP xa xb xc xd y m l x u n->¬smV (amL n xa xb xc xd)=fiS y (puG m l x j))/\Fr 64 a [(24,iv ((j:Nat):Int)),(23,iv ((K:Nat):Int)),(22,.slice (some ⟨gn,0,none⟩) K K),(7,.func (.func 73) #[] #[.pointer (some ⟨g3,0,none⟩),.pointer (some ⟨g2,0,none⟩)]),(3,.pointer (some ⟨g3,0,none⟩)),(2,.pointer (some ⟨g2,0,none⟩))]/\St w wv [(gn,(puL m l x).map fun z=>Value.int .i64 z),(g3,[iv xa,iv xb,iv xc,iv xd]),(g2,[iv y,iv m,.bool l,iv x,.bool u])] []) ?_ ?_
   ·refine wp_block<|wq ?_
    refine oV hF (fH (hF.at 3 rfl) hF.p (Dk (i:=j) (by omega) (by omega))) rfl fun a hF=>oV hF (aw hF.o (bj (v:= iv (puG m l x j)) (st.bk 0 rfl) (Ap (by omega)))) rfl fun a hF=>oA hF 0 rfl rfl fun a hF=>nq<|oV hF (az (hF.at 9 rfl) (kA (p:=0) rfl)) rfl fun a hF=>oV hF (aw hF.o (bG (v:= iv y) (st.bk 2 rfl) rfl)) rfl fun a hF=>oM hF 2 rfl rfl fun a hF=>?_
    by_cases hc6:(fiL y (puG m l x j)).length =0
    ·refine E.call hF (rgc k23 (aH hF.p hF.o)) (el y (puG m l x j) _ (hT.below st.bel) (by omega) (by omega) (by omega) (by omega)) rfl rfl rfl rfl ?_
     rintro e w7 ⟨ad0,cap0,rfl,_,bb⟩
     refine⟨_,rfl,?_⟩
     intro a hF
     rw[hc6] at hF
     replace st:=st.to bb
     clear bb
     refine oV hF (bC (aL hF.o) f8) rfl fun a hF=>oV hF (aC aq) rfl fun a hF=>E.nil<|wp_block ?_
     refine E.loop (fun mq a wv=>Fr 64 a [(33,iv 0),(32,iv 0),(31,.slice ad0 0 cap0),(24,iv ((j:Nat):Int)),(23,iv ((K:Nat):Int)),(22,.slice (some ⟨gn,0,none⟩) K K),(7,.func (.func 73) #[] #[.pointer (some ⟨g3,0,none⟩),.pointer (some ⟨g2,0,none⟩)]),(3,.pointer (some ⟨g3,0,none⟩)),(2,.pointer (some ⟨g2,0,none⟩))]/\St w wv [(gn,(puL m l x).map fun z=>Value.int .i64 z),(g3,[iv xa,iv xb,iv xc,iv xd]),(g2,[iv y,iv m,.bool l,iv x,.bool u])] []/\mq=0) (0) ?_ ?_
     ·exact⟨Fr.pick (L':=[(33,iv 0),(32,iv 0),(31,.slice ad0 0 cap0),(24,iv ((j:Nat):Int)),(23,iv ((K:Nat):Int)),(22,.slice (some ⟨gn,0,none⟩) K K),(7,.func (.func 73) #[] #[.pointer (some ⟨g3,0,none⟩),.pointer (some ⟨g2,0,none⟩)]),(3,.pointer (some ⟨g3,0,none⟩)),(2,.pointer (some ⟨g2,0,none⟩))]) hF [0,1,2,10,11,12,13,14,15] rfl,st.pick [0,1,2] [] rfl rfl (by decide),rfl⟩
     ·rintro mq a w8 ⟨hF,st,hm⟩
      refine wq ?_
      refine oU hF 0 1 (bD (c:=false) (by decide)) rfl rfl rfl fun a hF=>ns<|wp_cond_false hF.o<|wp_exit<|E.past<|E.past<|E.out (id:=2)<|E.blk<|E.norm ?_
      exact⟨(fun n p e=>by obtain⟨i,h1,_⟩:=ms (dA n xa xb xc xd) e;omega),Fr.pick (L':=[(24,iv ((j:Nat):Int)),(23,iv ((K:Nat):Int)),(22,.slice (some ⟨gn,0,none⟩) K K),(7,.func (.func 73) #[] #[.pointer (some ⟨g3,0,none⟩),.pointer (some ⟨g2,0,none⟩)]),(3,.pointer (some ⟨g3,0,none⟩)),(2,.pointer (some ⟨g2,0,none⟩))]) hF [4,5,6,7,8,9] rfl,st.pick [0,1,2] [] rfl rfl (by decide)⟩
    ·obtain⟨N,hNe⟩:∃N,(fiL y (puG m l x j)).length =N:=⟨_,rfl⟩
     have hN2:=pw y (puG m l x j)
     rw[hNe] at hN2
     have hN0:N≠0:=by rw[<-hNe];exact hc6
     refine E.call hF (rgc k23 (aH hF.p hF.o)) (el y (puG m l x j) _ (hT.below st.bel) (by omega) (by omega) (by omega) (by omega)) rfl rfl rfl rfl ?_
     rintro e w9 ⟨_,cap,rfl,hia,bb⟩
     refine⟨_,rfl,?_⟩
     intro a hF
     rw[hNe] at hia hF
     obtain⟨gr,more,rfl,_,hge,hbk⟩:=hia.row (by omega)
     replace st:=(st.to bb).push hbk (Nat.le_trans st.bel.size hge) (st.ne hge)
     clear hia bb hbk hge
     refine oV hF (bC (aL hF.o) f8) rfl fun a hF=>oV hF (aC aq) rfl fun a hF=>E.nil<|wp_block ?_
     refine E.loop (fun mq a wv=>∃(i:Nat),i<=N/\(∀n,puP xa xb xc xd y m l x u n->smV (amL n xa xb xc xd)=fiS y (puG m l x j)->∃ii,i<=ii/\ii<N/\amL n xa xb xc xd=fiD y (puG m l x j) ii)/\Fr 64 a [(33,iv ((i:Nat):Int)),(32,iv ((N:Nat):Int)),(31,.slice (some ⟨gr,0,none⟩) N cap),(24,iv ((j:Nat):Int)),(23,iv ((K:Nat):Int)),(22,.slice (some ⟨gn,0,none⟩) K K),(7,.func (.func 73) #[] #[.pointer (some ⟨g3,0,none⟩),.pointer (some ⟨g2,0,none⟩)]),(3,.pointer (some ⟨g3,0,none⟩)),(2,.pointer (some ⟨g2,0,none⟩))]/\St w wv [(gr,ga (fiL y (puG m l x j))++more),(gn,(puL m l x).map fun z=>Value.int .i64 z),(g3,[iv xa,iv xb,iv xc,iv xd]),(g2,[iv y,iv m,.bool l,iv x,.bool u])] []/\mq=N-i) ((N-0)) ?_ ?_
     ·exact⟨0,(Nat.zero_le _),(fun n p hc=>by obtain⟨ii,h1,h2⟩:=ms (dA n xa xb xc xd) hc;exact⟨ii,Nat.zero_le _,by omega,h2⟩),Fr.pick (L':=[(33,iv 0),(32,iv ((N:Nat):Int)),(31,.slice (some ⟨gr,0,none⟩) N cap),(24,iv ((j:Nat):Int)),(23,iv ((K:Nat):Int)),(22,.slice (some ⟨gn,0,none⟩) K K),(7,.func (.func 73) #[] #[.pointer (some ⟨g3,0,none⟩),.pointer (some ⟨g2,0,none⟩)]),(3,.pointer (some ⟨g3,0,none⟩)),(2,.pointer (some ⟨g2,0,none⟩))]) hF [0,1,2,10,11,12,13,14,15] rfl,st.pick [0,1,2,3] [] rfl rfl (by decide),rfl⟩
     ·rintro mq a w10 ⟨i,hi2,hni,hF,st,hm⟩
      by_cases hlt:i<N
      ·have hil:=fun(h:i<N)=>(by rw[hNe];exact h:i<(fiL y (puG m l x j)).length)
       have hfb:=sf (hil hlt)
       have hfs:=fc (qN (hil hlt)).1
       clear hil
       refine wq ?_
       refine oU hF 0 1 (bD (c:=true) (aA (by omega))) rfl rfl rfl fun a hF=>ns<|wp_cond_true hF.o<|wp_skip<|E.norm<|wp_seq<|wp_block<|wq<|oV hF (fH (hF.at 3 rfl) hF.p (mt (i:=i) (by omega) (by omega))) rfl fun a hF=>oV hF (aw hF.o (gb (vs:=[iv ((fiD y (puG m l x j) i)),iv (ag (fiD y (puG m l x j) i)),iv (smV (fiD y (puG m l x j) i)%12),iv (smV (ag (fiD y (puG m l x j) i))%12)]) (st.bk 0 rfl) (lY (fiL y (puG m l x j)) more (by omega)) rfl)) rfl fun a hF=>S.new st hF 0 rfl bw rfl rfl rfl rfl rfl fun g11 w11 a st hF=>ns ?_
       refine wp_seq ?_
       by_cases hc12:decide ((smV (fiD y (puG m l x j) i)%12)=(smV (ag (fiD y (puG m l x j) i))%12))=l
       ·refine E.rg 12 aP hF [37,38,39,40,41,42,43,44,45,46,47,48] [_,_,_,_,.ex (.bool false),.ex (.bool false),.ex (.agg #[iv (fiD y (puG m l x j) i),iv (ag (fiD y (puG m l x j) i)),iv (smV (fiD y (puG m l x j) i)%12),iv (smV (ag (fiD y (puG m l x j) i))%12)]),.ex (.pointer (some ⟨g2,3,none⟩)),.ex (iv x),.ex (iv (puF x (smV (fiD y (puG m l x j) i)%12) (smV (ag (fiD y (puG m l x j) i))%12))),.ex (.pointer (some ⟨g2,1,none⟩)),.ex (iv m)] (by decide+kernel) rfl rfl rfl ⟨rb st bw 0 0 rfl,ck st k27 rfl fun _ s=>a9 (fF (fiD y (puG m l x j) i) (ag (fiD y (puG m l x j) i)) (smV (fiD y (puG m l x j) i)%12) (smV (ag (fiD y (puG m l x j) i))%12) _),rfd 12 (fun _=>d8 (p:=2) rfl) rfl,rld rfl fun _ hb=>(fB (v:= .bool l) ((st.bk 4 rfl).below hb) rfl),(by intro a' w' hF' hb hd;have e38:=tE hd 0 rfl;have e40:=tE hd 1 rfl;exact dv0 (ao e38 e40 dI (ff (d:=false) (by rw[hc12];exact bne_self_eq_false l))) rfl rfl rfl),(by intro a' w' hF' hb hd;have e41:=tE hd 0 rfl;exact dv0 (aC e41) rfl rfl rfl),(by intro a' w' hF' hb hd;have e42:=tE hd 0 rfl;exact dv1 (aJ rfl rfl e42 rfl) (aw (hF'.at 0 rfl) (aZ bw ((st.bk 0 rfl).below hb) rfl)) rfl rfl),(by intro a' w' hF' hb hd;have e42:=tE hd 0 rfl;exact dv1 (aJ rfl rfl e42 rfl) (az (hF'.at 12 rfl) (cS (p:=3) rfl)) rfl rfl),(by intro a' w' hF' hb hd;have e42:=tE hd 1 rfl;have e44:=tE hd 0 rfl;exact dv1 (aJ rfl rfl e42 rfl) (aw e44 (bj (v:= iv x) ((st.bk 4 rfl).below hb) rfl)) rfl rfl),(by intro a' w' hF' hb hd;have e42:=tE hd 2 rfl;have e43:=tE hd 0 rfl;have e45:=tE hd 1 rfl;exact vN (aJ rfl rfl e42 rfl) (rk Gb (aH e43 e45)) (kD (fiD y (puG m l x j) i) (ag (fiD y (puG m l x j) i)) (smV (fiD y (puG m l x j) i)%12) (smV (ag (fiD y (puG m l x j) i))%12) x _ (by omega) (by omega) (by omega) (by omega)) (fun _=>rfl) rfl),(by intro a' w' hF' hb hd;have e42:=tE hd 0 rfl;exact dv1 (aJ rfl rfl e42 rfl) (az (hF'.at 12 rfl) (ce (p:=1) rfl)) rfl rfl),(by intro a' w' hF' hb hd;have e42:=tE hd 1 rfl;have e47:=tE hd 0 rfl;exact dv1 (aJ rfl rfl e42 rfl) (aw e47 (bj (v:= iv m) ((st.bk 4 rfl).below hb) rfl)) rfl rfl),trivial⟩ ?_
        intro a w13 hF bb hall
        replace st:=st.to bb
        replace hF:=rE hall hF 5 rfl rfl
        replace hF:=rE hall hF 9 rfl rfl
        have hpf:=j4 x (smV (fiD y (puG m l x j) i)%12) (smV (ag (fiD y (puG m l x j) i))%12)
        replace hF:=rE hall hF 11 rfl rfl
        clear hall bb
        by_cases hc14:puF x (smV (fiD y (puG m l x j) i)%12) (smV (ag (fiD y (puG m l x j) i))%12)=m
        ·refine og hF (ao hF.p hF.o ah (aO (bn (c:=false) (aK (fun e=>e hc14))) (by simp))) 2 rfl rfl rfl fun a hF=>oV hF (aX (hF.at 3 rfl) hF.o) rfl fun a hF=>E.nil<|wp_cond_false hF.o<|wp_skip<|E.norm<|wq<|oL hF st 5 0 bw rfl rfl rfl rfl fun a hF=>oV hF (az (hF.at 18 rfl) (cS (p:=3) rfl)) rfl fun a hF=>oV hF (aw hF.o (bj (v:= iv x) (st.bk 4 rfl) rfl)) rfl fun a hF=>oL hF st 19 3 aM rfl rfl rfl rfl fun a hF=>oM hF 19 rfl rfl fun a hF=>?_
         refine cX st hF (rgc k29 (zi (hF.at 4 rfl) hF.q hF.p hF.o)) (lr (fiD y (puG m l x j) i) (ag (fiD y (puG m l x j) i)) (smV (fiD y (puG m l x j) i)%12) (smV (ag (fiD y (puG m l x j) i))%12) x xa xb xc xd fq fq _ _ _ (hT.below st.bel) hok (by omega) (by omega) (by omega) (by omega) hqq (FC xa xb xc xd y m l x u _ _ _ (hT.below st.bel) hok (st.bk 3 rfl) (st.bk 4 rfl) fq hfq)) rfl fun w15 a st hF=>oM hF 0 rfl rfl fun a hF=>oV hF (av (v:= iv ((wiV fq ((fiD y (puG m l x j) i)+(x-1)*63/64-4) 11).1)) hF.o rfl) rfl fun a hF=>oV hF (av (v:= .bool ((wiV fq ((fiD y (puG m l x j) i)+(x-1)*63/64-4) 11).2)) hF.p rfl) rfl fun a hF=>oA hF 1 rfl rfl fun a hF=>oA hF 1 rfl rfl fun a hF=>?_
         obtain⟨W,hW⟩:∃W,wiV fq ((fiD y (puG m l x j) i)+(x-1)*63/64-4) 11=W:=⟨_,rfl⟩
         have hws:=m8 fq 11 ((fiD y (puG m l x j) i)+(x-1)*63/64-4)
         rw[hW] at hws hF
         refine nq<|oM hF 0 rfl rfl fun a hF=>E.nil ?_
         by_cases hc16:W.2=true
         ·refine wp_cond_true (Eq.trans hF.o (congrArg Value.bool hc16)) ?_
          refine wq ?_
          refine oM hF 2 rfl rfl fun a hF=>oA hF 0 rfl rfl fun a hF=>oC hF rfl fun a hF=>nr<|E.pastbr<|E.pastr<|E.pastr<|E.pastbr<|E.pastbr<|E.pastr<|E.pastr<|E.pastbr<|E.pastr ?_
          have bel:=st.bel
          refine bodyPost_ret (de Tryz.results36 hF.p hF.o) hF.dfr ?_
          have hp:=(hfi _).1 (hws.elim (fun h=>h.2) (fun h=>absurd (hc16.symm.trans h.1) (by decide)))
          have hfx:=xU hok hp
          exact⟨kg hfx.1 hfx.2,bel⟩
         ·refine wp_cond_false (Eq.trans hF.o (congrArg Value.bool (eq_false_of_ne_true hc16))) ?_
          refine wp_skip<|E.blk<|E.norm<|E.seq<|oV hF (ao (hF.at 21 rfl) aq ah (aU (by omega) (by omega))) rfl fun a hF=>oS hF (aC hF.o) rfl fun a hF=>E.nil0<|E.norm ?_
          replace hF:Fr 64 a [(33,iv ((i+1:Nat):Int)),(62,iv (((i:Nat):Int)+1)),(60,.bool (W.2)),(13,.bool (W.2)),(12,iv (W.1)),(59,.bool (W.2)),(58,iv (W.1)),(51,.tuple #[iv (W.1),.bool (W.2)]),(57,.tuple #[iv (W.1),.bool (W.2)]),(56,.func (.func 73) #[] #[.pointer (some ⟨g3,0,none⟩),.pointer (some ⟨g2,0,none⟩)]),(55,.agg #[iv xa,iv xb,iv xc,iv xd]),(54,iv x),(53,.pointer (some ⟨g2,3,none⟩)),(52,.agg #[iv (fiD y (puG m l x j) i),iv (ag (fiD y (puG m l x j) i)),iv (smV (fiD y (puG m l x j) i)%12),iv (smV (ag (fiD y (puG m l x j) i))%12)]),(50,.bool false),(49,.bool false),(48,iv m),(46,iv (puF x (smV (fiD y (puG m l x j) i)%12) (smV (ag (fiD y (puG m l x j) i))%12))),(42,.bool false),(11,.pointer (some ⟨g11,0,none⟩)),(36,.agg #[iv (fiD y (puG m l x j) i),iv (ag (fiD y (puG m l x j) i)),iv (smV (fiD y (puG m l x j) i)%12),iv (smV (ag (fiD y (puG m l x j) i))%12)]),(35,.pointer (some ⟨gr,4*i,none⟩)),(34,.bool true),(32,iv ((N:Nat):Int)),(31,.slice (some ⟨gr,0,none⟩) N cap),(24,iv ((j:Nat):Int)),(23,iv ((K:Nat):Int)),(22,.slice (some ⟨gn,0,none⟩) K K),(7,.func (.func 73) #[] #[.pointer (some ⟨g3,0,none⟩),.pointer (some ⟨g2,0,none⟩)]),(3,.pointer (some ⟨g3,0,none⟩)),(2,.pointer (some ⟨g2,0,none⟩))]:=by rw[show((i+1:Nat):Int)=((i:Nat):Int)+1 from by omega];exact hF
          exact⟨(N-(i+1)),by omega,⟨(i+1),(by omega),(fun n p hc=>by obtain⟨ii,h0,h1,e⟩:=hni n p hc;exact if z:ii=i then(by exfalso;have q:amL n xa xb xc xd=fiD y (puG m l x j) i:=(by rw[<-z];exact e);have r:=Df hok p;rw[q] at r;exact absurd ((hfi n).2 p) (hws.elim (fun h=>absurd h.1 hc16) (fun h=>h.2.2 n (by omega) (by omega)))) else⟨ii,(by omega),h1,e⟩),Fr.pick (L':=[(33,iv ((i+1:Nat):Int)),(32,iv ((N:Nat):Int)),(31,.slice (some ⟨gr,0,none⟩) N cap),(24,iv ((j:Nat):Int)),(23,iv ((K:Nat):Int)),(22,.slice (some ⟨gn,0,none⟩) K K),(7,.func (.func 73) #[] #[.pointer (some ⟨g3,0,none⟩),.pointer (some ⟨g2,0,none⟩)]),(3,.pointer (some ⟨g3,0,none⟩)),(2,.pointer (some ⟨g2,0,none⟩))]) hF [0,23,24,25,26,27,28,29,30] rfl,st.pick [1,2,3,4] [] rfl rfl (by decide),rfl⟩⟩
        ·refine og hF (ao hF.p hF.o ah (aO (bn (c:=true) (aA hc14)) (by simp))) 2 rfl rfl rfl fun a hF=>oV hF (aX (hF.at 3 rfl) hF.o) rfl fun a hF=>E.nil<|wp_cond_true hF.o<|wp_exit<|E.past<|E.out (id:=3)<|E.norm<|E.seq<|oV hF (ao (hF.at 9 rfl) aq ah (aU (by omega) (by omega))) rfl fun a hF=>oS hF (aC hF.o) rfl fun a hF=>E.nil0 ?_
         refine E.norm ?_
         replace hF:Fr 64 a [(33,iv ((i+1:Nat):Int)),(62,iv (((i:Nat):Int)+1)),(50,.bool true),(49,.bool true),(48,iv m),(46,iv (puF x (smV (fiD y (puG m l x j) i)%12) (smV (ag (fiD y (puG m l x j) i))%12))),(42,.bool false),(11,.pointer (some ⟨g11,0,none⟩)),(36,.agg #[iv (fiD y (puG m l x j) i),iv (ag (fiD y (puG m l x j) i)),iv (smV (fiD y (puG m l x j) i)%12),iv (smV (ag (fiD y (puG m l x j) i))%12)]),(35,.pointer (some ⟨gr,4*i,none⟩)),(34,.bool true),(32,iv ((N:Nat):Int)),(31,.slice (some ⟨gr,0,none⟩) N cap),(24,iv ((j:Nat):Int)),(23,iv ((K:Nat):Int)),(22,.slice (some ⟨gn,0,none⟩) K K),(7,.func (.func 73) #[] #[.pointer (some ⟨g3,0,none⟩),.pointer (some ⟨g2,0,none⟩)]),(3,.pointer (some ⟨g3,0,none⟩)),(2,.pointer (some ⟨g2,0,none⟩))]:=by rw[show((i+1:Nat):Int)=((i:Nat):Int)+1 from by omega];exact hF
         exact⟨(N-(i+1)),by omega,⟨(i+1),(by omega),(fun n p hc=>by obtain⟨ii,h0,h1,e⟩:=hni n p hc;exact if z:ii=i then(by exfalso;have q:amL n xa xb xc xd=fiD y (puG m l x j) i:=(by rw[<-z];exact e);exact absurd (CS p q) hc14) else⟨ii,(by omega),h1,e⟩),Fr.pick (L':=[(33,iv ((i+1:Nat):Int)),(32,iv ((N:Nat):Int)),(31,.slice (some ⟨gr,0,none⟩) N cap),(24,iv ((j:Nat):Int)),(23,iv ((K:Nat):Int)),(22,.slice (some ⟨gn,0,none⟩) K K),(7,.func (.func 73) #[] #[.pointer (some ⟨g3,0,none⟩),.pointer (some ⟨g2,0,none⟩)]),(3,.pointer (some ⟨g3,0,none⟩)),(2,.pointer (some ⟨g2,0,none⟩))]) hF [0,11,12,13,14,15,16,17,18] rfl,st.pick [1,2,3,4] [] rfl rfl (by decide),rfl⟩⟩
       ·refine E.rg 12 aP hF [37,38,39,40,41,42,43,44,45,46,47,48] [_,_,_,_,.ex (.bool true),.ex (.bool true),.ex undef,.ex undef,.ex undef,.ex undef,.ex undef,.ex undef] (by decide+kernel) rfl rfl rfl ⟨rb st bw 0 0 rfl,ck st k27 rfl fun _ s=>a9 (fF (fiD y (puG m l x j) i) (ag (fiD y (puG m l x j) i)) (smV (fiD y (puG m l x j) i)%12) (smV (ag (fiD y (puG m l x j) i))%12) _),rfd 12 (fun _=>d8 (p:=2) rfl) rfl,rld rfl fun _ hb=>(fB (v:= .bool l) ((st.bk 4 rfl).below hb) rfl),(by intro a' w' hF' hb hd;have e38:=tE hd 0 rfl;have e40:=tE hd 1 rfl;exact dv0 (ao e38 e40 dI (ff (d:=true) (bne_iff_ne.2 hc12))) rfl rfl rfl),(by intro a' w' hF' hb hd;have e41:=tE hd 0 rfl;exact dv0 (aC e41) rfl rfl rfl),(by intro a' w' hF' hb hd;have e42:=tE hd 0 rfl;exact dZ (aJ rfl rfl e42 rfl) ⟨rfl,by decide⟩),(by intro a' w' hF' hb hd;have e42:=tE hd 0 rfl;exact dZ (aJ rfl rfl e42 rfl) ⟨rfl,by decide⟩),(by intro a' w' hF' hb hd;have e42:=tE hd 1 rfl;exact dZ (aJ rfl rfl e42 rfl) ⟨rfl,by decide⟩),(by intro a' w' hF' hb hd;have e42:=tE hd 2 rfl;exact dZ (aJ rfl rfl e42 rfl) ⟨rfl,by decide⟩),(by intro a' w' hF' hb hd;have e42:=tE hd 0 rfl;exact dZ (aJ rfl rfl e42 rfl) ⟨rfl,by decide⟩),(by intro a' w' hF' hb hd;have e42:=tE hd 1 rfl;exact dZ (aJ rfl rfl e42 rfl) ⟨rfl,by decide⟩),trivial⟩ ?_
        intro a w17 hF bb hall
        replace st:=st.to bb
        replace hF:=rE hall hF 5 rfl rfl
        replace hF:=rE hall hF 9 rfl rfl
        replace hF:=rE hall hF 11 rfl rfl
        clear hall bb
        refine nu hF 2 rfl rfl rfl fun a hF=>oV hF (aB (hF.at 3 rfl) aq) rfl fun a hF=>E.nil<|wp_cond_true hF.o<|wp_exit<|E.past<|E.out (id:=3)<|E.norm<|E.seq<|oV hF (ao (hF.at 9 rfl) aq ah (aU (by omega) (by omega))) rfl fun a hF=>oS hF (aC hF.o) rfl fun a hF=>E.nil0 ?_
        refine E.norm ?_
        replace hF:Fr 64 a [(33,iv ((i+1:Nat):Int)),(62,iv (((i:Nat):Int)+1)),(50,.bool true),(49,undef),(48,undef),(46,undef),(42,.bool true),(11,.pointer (some ⟨g11,0,none⟩)),(36,.agg #[iv (fiD y (puG m l x j) i),iv (ag (fiD y (puG m l x j) i)),iv (smV (fiD y (puG m l x j) i)%12),iv (smV (ag (fiD y (puG m l x j) i))%12)]),(35,.pointer (some ⟨gr,4*i,none⟩)),(34,.bool true),(32,iv ((N:Nat):Int)),(31,.slice (some ⟨gr,0,none⟩) N cap),(24,iv ((j:Nat):Int)),(23,iv ((K:Nat):Int)),(22,.slice (some ⟨gn,0,none⟩) K K),(7,.func (.func 73) #[] #[.pointer (some ⟨g3,0,none⟩),.pointer (some ⟨g2,0,none⟩)]),(3,.pointer (some ⟨g3,0,none⟩)),(2,.pointer (some ⟨g2,0,none⟩))]:=by rw[show((i+1:Nat):Int)=((i:Nat):Int)+1 from by omega];exact hF
        exact⟨(N-(i+1)),by omega,⟨(i+1),(by omega),(fun n p hc=>by obtain⟨ii,h0,h1,e⟩:=hni n p hc;exact if z:ii=i then(by exfalso;have q:amL n xa xb xc xd=fiD y (puG m l x j) i:=(by rw[<-z];exact e);have r:=p.2.2.2.2.1;rw[q] at r;exact hc12 ((decide_eq_decide.2 (by omega)).trans r)) else⟨ii,(by omega),h1,e⟩),Fr.pick (L':=[(33,iv ((i+1:Nat):Int)),(32,iv ((N:Nat):Int)),(31,.slice (some ⟨gr,0,none⟩) N cap),(24,iv ((j:Nat):Int)),(23,iv ((K:Nat):Int)),(22,.slice (some ⟨gn,0,none⟩) K K),(7,.func (.func 73) #[] #[.pointer (some ⟨g3,0,none⟩),.pointer (some ⟨g2,0,none⟩)]),(3,.pointer (some ⟨g3,0,none⟩)),(2,.pointer (some ⟨g2,0,none⟩))]) hF [0,11,12,13,14,15,16,17,18] rfl,st.pick [1,2,3,4] [] rfl rfl (by decide),rfl⟩⟩
      ·refine wp_seq<|E.seq ?_
       refine oU hF 0 1 (bD (c:=false) (aK (by omega))) rfl rfl rfl fun a hF=>ns<|wp_cond_false hF.o<|wp_exit<|E.past<|E.past<|E.out (id:=2)<|E.blk<|E.norm ?_
       exact⟨(fun n p e=>by obtain⟨i,h1,h2,_⟩:=hni n p e;omega),Fr.pick (L':=[(24,iv ((j:Nat):Int)),(23,iv ((K:Nat):Int)),(22,.slice (some ⟨gn,0,none⟩) K K),(7,.func (.func 73) #[] #[.pointer (some ⟨g3,0,none⟩),.pointer (some ⟨g2,0,none⟩)]),(3,.pointer (some ⟨g3,0,none⟩)),(2,.pointer (some ⟨g2,0,none⟩))]) hF [4,5,6,7,8,9] rfl,st.pick [1,2,3] [] rfl rfl (by decide)⟩
   ·rintro a w18 ⟨hnj,hF,st⟩
    refine E.seq<|oV hF (ao hF.o aq ah (aU (by omega) (by omega))) rfl fun a hF=>oS hF (aC hF.o) rfl fun a hF=>E.nil0<|E.norm ?_
    replace hF:Fr 64 a [(24,iv ((j+1:Nat):Int)),(63,iv (((j:Nat):Int)+1)),(23,iv ((K:Nat):Int)),(22,.slice (some ⟨gn,0,none⟩) K K),(7,.func (.func 73) #[] #[.pointer (some ⟨g3,0,none⟩),.pointer (some ⟨g2,0,none⟩)]),(3,.pointer (some ⟨g3,0,none⟩)),(2,.pointer (some ⟨g2,0,none⟩))]:=by rw[show((j+1:Nat):Int)=((j:Nat):Int)+1 from by omega];exact hF
    exact⟨(K-(j+1)),by omega,⟨(j+1),(by omega),(fun n p=>by obtain⟨k,h0,h1,e⟩:=hno n p;exact if z:k=j then(by exfalso;subst z;exact hnj n p e) else⟨k,(by omega),h1,e⟩),Fr.pick (L':=[(24,iv ((j+1:Nat):Int)),(23,iv ((K:Nat):Int)),(22,.slice (some ⟨gn,0,none⟩) K K),(7,.func (.func 73) #[] #[.pointer (some ⟨g3,0,none⟩),.pointer (some ⟨g2,0,none⟩)]),(3,.pointer (some ⟨g3,0,none⟩)),(2,.pointer (some ⟨g2,0,none⟩))]) hF [0,2,3,4,5,6] rfl,st.pick [0,1,2] [] rfl rfl (by decide),rfl⟩⟩
  ·refine wp_seq<|E.seq ?_
   refine oU hF 0 1 (bD (c:=false) (aK (by omega))) rfl rfl rfl fun a hF=>ns<|wp_cond_false hF.o<|wp_exit<|E.past<|E.past<|E.out (id:=0)<|E.norm<|wq ?_
   refine oC hF rfl fun a hF=>oC hF rfl fun a hF=>nr ?_
   have bel:=st.bel
   refine bodyPost_ret (de Tryz.results36 hF.p hF.o) hF.dfr ?_
   have hfx:=Fi (a:=xa) (b:=xb) (c:=xc) (d:=xd) (y:=y) (m:=m) (l:=l) (x:=x) (g:=u) (fun n p=>by obtain⟨j,h0,h1,_⟩:=hno n p;omega)
   exact⟨kg hfx.1 hfx.2,bel⟩
end Go.Proofs.YtddiipaomejcfaaGreatDoor
