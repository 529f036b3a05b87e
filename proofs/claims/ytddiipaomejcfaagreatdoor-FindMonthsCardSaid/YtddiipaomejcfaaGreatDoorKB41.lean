import Derived.Test.YtddiipaomejcfaaGreatDoorKB40
namespace Go.Proofs.YtddiipaomejcfaaGreatDoor
open Go.RowKit
set_option maxRecDepth 100000
set_option linter.unusedVariables false
set_option maxHeartbeats 8000000
theorem ot (y m:Int) (w:World) (hy0: -9000<=y) (hy1:y<=9000) (hm0:1<=m) (hm1:m<=12) (hN:(fiL y m).length =0):CP 24 #[iv y,iv m] w (fun e w'=>∃v,e= .returned v/\(∃ad cap,v= .slice ad 0 cap)/\Below w.heap.size w w'):=
 (jR y m w hy0 hy1 hm0 hm1).mono fun _ _ ⟨ad,cap,e,_,b⟩=>⟨_,e,⟨ad,cap,by rw[hN]⟩,b⟩
theorem nO (v:Value):Cl fun _=>∃ad cap,v= .slice ad 0 cap:=fun _ _ h _=>h
theorem tS {w:World} {ty:TypeId} {a:Option Addr} {c:Nat}:(builtin .len #[56] ty #[false] #[.slice a 0 c]).run Tryz.prog w= .ok (.value (iv 0)) w:=qn
theorem Eb {xa xb xc xd y m x:Int} {l u:Bool} (hN:(fiL y m).length =0) (n:Int):¬fdP xa xb xc xd y m l x u n:=fun p=>by
 obtain⟨i,hi,_⟩:=pJ (gL n xa xb xc xd) (sF p rfl)
 omega
theorem vE (y m:Int) (l:Bool) (x:Int) (u:Bool) (xa xb xc xd:Int) (v1:Value) (w:World) (ho:RPl w v1 (((xa:Int):Rat)/((xb:Int):Rat)) (((xc:Int):Rat)/((xd:Int):Rat)) 2) (hok:cr xa xb xc xd) (hy0: -9000<=y) (hy1:y<=9000) (hm0:1<=m) (hm1:m<=12) (hx0:1<=x) (hx1:x<=30):
 CV 19 #[.agg #[iv y,iv m,.bool l,iv x,.bool u],v1] w (.tuple #[iv (fdN xa xb xc xd y m l x u),iv (fdE xa xb xc xd y m l x u)]):=by
 by_cases hN:(fiL y m).length =0
 ·obtain⟨bpx,adpx,npx,cpx,aepx,mpx,dpx,bpy,adpy,npy,cpy,aepy,mpy,dpy,rfl,hpx,hpy⟩:=RPl.shape ho
  have ho:RPl w (.agg #[.bool bpx,.slice adpx npx cpx,.slice aepx mpx dpx,.bool bpy,.slice adpy npy cpy,.slice aepy mpy dpy]) (((xa:Int):Rat)/((xb:Int):Rat)) (((xc:Int):Rat)/((xd:Int):Rat)) 2:=⟨_,_,_,_,_,_,_,_,_,_,_,_,_,_,rfl,hpx,hpy⟩
  have hfe:=fR hy0 hy1 hm0 hm1
  refine gs2 (nt:=67) Tryz.func19 rfl rfl rfl fun a st hF=>wq<|bx st hF 0 rfl rfl fun g2 w1 a st hF=>bx st hF 2 rfl rfl fun g3 w2 a st hF=>?_
  refine oC hF rfl fun a hF=>oC hF rfl fun a hF=>ns<|wq<|oV hF (az (hF.at 3 rfl) (xE (p:=0) rfl)) rfl fun a hF=>oV hF (av hF.o (aP (v:= iv y) (st.bk 1 rfl) rfl)) rfl fun a hF=>oV hF (az (hF.at 5 rfl) (qq (p:=1) rfl)) rfl fun a hF=>oV hF (av hF.o (aP (v:= iv m) (st.bk 1 rfl) rfl)) rfl fun a hF=>?_
  refine ca st hF (rgc k24 (aF hF.q hF.o)) (ot y m _ (by omega) (by omega) (by omega) (by omega) hN) (fun _ _ h=>h) nO rfl fun vv4 w3 a st hF=>?_
  obtain⟨ad0,cap0,rfl⟩:=(st.f 0 rfl)
  refine oV hF (aW (aD hF.o) tS) rfl fun a hF=>oV hF (aB ao) rfl fun a hF=>E.nil<|wp_block ?_
  refine E.loop (fun mq a wv=>Fr 67 a [(16,iv 0),(15,iv 0),(14,.slice ad0 0 cap0),(3,.pointer (some ⟨g3,0,none⟩)),(2,.pointer (some ⟨g2,0,none⟩))]/\St w wv [(g3,[.bool bpx,.slice adpx npx cpx,.slice aepx mpx dpx,.bool bpy,.slice adpy npy cpy,.slice aepy mpy dpy]),(g2,[iv y,iv m,.bool l,iv x,.bool u])] [fun w=>∃ad cap,((.slice ad0 0 cap0):Value)= .slice ad 0 cap]/\mq=0) (0) ?_ ?_
  ·exact⟨Fr.pick (L':=[(16,iv 0),(15,iv 0),(14,.slice ad0 0 cap0),(3,.pointer (some ⟨g3,0,none⟩)),(2,.pointer (some ⟨g2,0,none⟩))]) hF [0,1,2,9,10] rfl,st.pick [0,1] [0] rfl rfl (by decide),rfl⟩
  ·rintro mq a w6 ⟨hF,st,hm⟩
   refine wq ?_
   refine oU hF 0 1 (a9 (c:=false) (by decide)) rfl rfl rfl fun a hF=>ns<|wp_cond_false hF.o<|wp_exit<|E.past<|E.past<|E.out (id:=0)<|E.norm<|wq ?_
   refine oC hF rfl fun a hF=>oC hF rfl fun a hF=>nr ?_
   have bel:=st.bel
   refine bodyPost_ret (dT Tryz.results19 hF.p hF.o) hF.dfr ?_
   have hfx:=uF (Eb (xa:=xa) (xb:=xb) (xc:=xc) (xd:=xd) (x:=x) (l:=l) (u:=u) hN)
   exact⟨jp hfx.1 hfx.2,bel⟩
 ·obtain⟨bpx,adpx,npx,cpx,aepx,mpx,dpx,bpy,adpy,npy,cpy,aepy,mpy,dpy,rfl,hpx,hpy⟩:=RPl.shape ho
  have ho:RPl w (.agg #[.bool bpx,.slice adpx npx cpx,.slice aepx mpx dpx,.bool bpy,.slice adpy npy cpy,.slice aepy mpy dpy]) (((xa:Int):Rat)/((xb:Int):Rat)) (((xc:Int):Rat)/((xd:Int):Rat)) 2:=⟨_,_,_,_,_,_,_,_,_,_,_,_,_,_,rfl,hpx,hpy⟩
  have hfe:=fR hy0 hy1 hm0 hm1
  obtain⟨N,hNe⟩:∃N,(fiL y m).length =N:=⟨_,rfl⟩
  have hN2:=sG y m
  rw[hNe] at hN hN2
  refine gs2 (nt:=67) Tryz.func19 rfl rfl rfl fun a st hF=>wq<|bx st hF 0 rfl rfl fun g2 w1 a st hF=>bx st hF 2 rfl rfl fun g3 w2 a st hF=>?_
  refine oC hF rfl fun a hF=>oC hF rfl fun a hF=>ns<|wq<|oV hF (az (hF.at 3 rfl) (xE (p:=0) rfl)) rfl fun a hF=>oV hF (av hF.o (aP (v:= iv y) (st.bk 1 rfl) rfl)) rfl fun a hF=>oV hF (az (hF.at 5 rfl) (qq (p:=1) rfl)) rfl fun a hF=>oV hF (av hF.o (aP (v:= iv m) (st.bk 1 rfl) rfl)) rfl fun a hF=>?_
  refine E.call hF (rgc k24 (aF hF.q hF.o)) (jR y m _ (by omega) (by omega) (by omega) (by omega)) rfl rfl rfl rfl ?_
  rintro e w3 ⟨_,cap,rfl,hia,bb⟩
  refine⟨_,rfl,?_⟩
  intro a hF
  rw[hNe] at hia hF
  obtain⟨gr,more,rfl,_,hge,hbk⟩:=hia.row (by omega)
  replace st:=(st.to bb).push hbk (Nat.le_trans st.bel.size hge) (st.ne hge)
  clear hia bb hbk hge
  refine oV hF (aW (aD hF.o) qn) rfl fun a hF=>oV hF (aB ao) rfl fun a hF=>E.nil<|wp_block ?_
  refine E.loop (fun mq a wv=>∃(i:Nat),i<=N/\(∀n,fdP xa xb xc xd y m l x u n->∃j,i<=j/\j<N/\amL n xa xb xc xd=fiD y m j)/\Fr 67 a [(16,iv ((i:Nat):Int)),(15,iv ((N:Nat):Int)),(14,.slice (some ⟨gr,0,none⟩) N cap),(3,.pointer (some ⟨g3,0,none⟩)),(2,.pointer (some ⟨g2,0,none⟩))]/\St w wv [(gr,fM (fiL y m)++more),(g3,[.bool bpx,.slice adpx npx cpx,.slice aepx mpx dpx,.bool bpy,.slice adpy npy cpy,.slice aepy mpy dpy]),(g2,[iv y,iv m,.bool l,iv x,.bool u])] []/\mq=N-i) ((N-0)) ?_ ?_
  ·exact⟨0,(by omega),(fun n p=>by obtain⟨j,h1,h2⟩:=pJ (gL n xa xb xc xd) (sF p rfl);exact⟨j,Nat.zero_le _,by omega,h2⟩),Fr.pick (L':=[(16,iv 0),(15,iv ((N:Nat):Int)),(14,.slice (some ⟨gr,0,none⟩) N cap),(3,.pointer (some ⟨g3,0,none⟩)),(2,.pointer (some ⟨g2,0,none⟩))]) hF [0,1,2,9,10] rfl,st.pick [0,1,2] [] rfl rfl (by decide),rfl⟩
  ·rintro mq a w4 ⟨i,hi2,hno,hF,st,hm⟩
   have hfi:=fun h:i<N=>l8 (y:=y) (m:=m) (i:=i) (by rw[hNe];exact h)
   have hfb:=fun h:i<N=>vg (y:=y) (m:=m) (i:=i) (by rw[hNe];exact h)
   have hfs:=fun h:i<N=>iy (hfi h).1
   refine wq ?_
   by_cases hc5:((i:Nat):Int)<((N:Nat):Int)
   ·refine oU hF 0 1 (a9 (c:=true) (aK hc5)) rfl rfl rfl fun a hF=>ns<|wp_cond_true hF.o<|wp_skip<|E.norm<|wp_seq<|wp_block<|wq<|oV hF (cf (hF.at 3 rfl) hF.p (eM (i:=i) (by omega) (by omega))) rfl fun a hF=>oV hF (av hF.o (IV (vs:=[iv ((fiD y m i)),iv (au (fiD y m i)),iv (smV (fiD y m i)%12),iv (smV (au (fiD y m i))%12)]) (st.bk 0 rfl) (l9 (fiL y m) more (by omega)) rfl)) rfl fun a hF=>S.new st hF 0 rfl jK rfl rfl rfl rfl rfl fun g7 w6 a st hF=>ns ?_
    refine wq<|oV hF (az hF.o (jh (p:=2) rfl)) rfl fun a hF=>oV hF (av hF.o (aP (v:= iv (smV (fiD y m i)%12)) (st.bk 0 rfl) rfl)) rfl fun a hF=>oV hF (az hF.q (kP (p:=3) rfl)) rfl fun a hF=>oV hF (av hF.o (aP (v:= iv (smV (au (fiD y m i))%12)) (st.bk 0 rfl) rfl)) rfl fun a hF=>?_
    by_cases hc7:smV (fiD y m i)%12=smV (au (fiD y m i))%12
    ·refine oU hF 2 0 (aQ (c:=true) (aK hc7)) rfl rfl rfl fun a hF=>oV hF (az (hF.at 13 rfl) (wU (p:=2) rfl)) rfl fun a hF=>oV hF (av hF.o (kO (v:= .bool l) (st.bk 3 rfl) rfl)) rfl fun a hF=>?_
     by_cases hc8:l=true
     ·refine oV hF (aq hF.q hF.o cy (dI (d:=false) (by rw[hc8];rfl))) rfl fun a hF=>E.nil<|wp_cond_false hF.o<|wp_skip<|E.norm<|wq<|oV hF (az (hF.at 8 rfl) (kH (p:=0) rfl)) rfl fun a hF=>oV hF (av hF.o (aP (v:= iv (fiD y m i)) (st.bk 0 rfl) rfl)) rfl fun a hF=>oV hF (az (hF.at 18 rfl) (iq (p:=3) rfl)) rfl fun a hF=>oV hF (av hF.o (aP (v:= iv x) (st.bk 3 rfl) rfl)) rfl fun a hF=>oV hF (aq hF.o ao aa (bE (by omega) (by omega))) rfl fun a hF=>oV hF (aq ao hF.o aa (dG (by omega) (by omega))) rfl fun a hF=>oV hF (aq hF.o ao aa (ki (a:=63*(x-1)) (b:=64) (by omega) (by omega) (by omega) (by omega))) rfl fun a hF=>?_
      refine oV hF (aq (hF.at 5 rfl) hF.o aa (aO (by omega) (by omega))) rfl fun a hF=>oA hF 0 rfl rfl fun a hF=>?_
      obtain⟨q0,hq0⟩:∃z:Int,z=fiD y m i+63*(x-1)/64:=⟨_,rfl⟩
      replace hF:Fr 67 a [(8,iv q0),(35,iv ((fiD y m i)+((63*(x-1))/64))),(34,iv ((63*(x-1))/64)),(33,iv (63*(x-1))),(32,iv (x-1)),(31,iv x),(30,.pointer (some ⟨g2,3,none⟩)),(29,iv (fiD y m i)),(28,.pointer (some ⟨g7,0,none⟩)),(27,.bool false),(26,.bool l),(25,.pointer (some ⟨g2,2,none⟩)),(24,.bool true),(23,iv (smV (au (fiD y m i))%12)),(22,.pointer (some ⟨g7,3,none⟩)),(21,iv (smV (fiD y m i)%12)),(20,.pointer (some ⟨g7,2,none⟩)),(7,.pointer (some ⟨g7,0,none⟩)),(19,.agg #[iv (fiD y m i),iv (au (fiD y m i)),iv (smV (fiD y m i)%12),iv (smV (au (fiD y m i))%12)]),(18,.pointer (some ⟨gr,4*i,none⟩)),(17,.bool true),(16,iv ((i:Nat):Int)),(15,iv ((N:Nat):Int)),(14,.slice (some ⟨gr,0,none⟩) N cap),(3,.pointer (some ⟨g3,0,none⟩)),(2,.pointer (some ⟨g2,0,none⟩))]:=by rw[hq0];exact hF
      refine nq<|oM hF 0 rfl rfl fun a hF=>oV hF (aq hF.o ao aa (bE (by omega) (by omega))) rfl fun a hF=>oA hF 0 rfl rfl fun a hF=>E.nil<|wp_block ?_
      refine E.loop (fun mq a wv=>∃(k:Int),q0-5<=k/\k<=q0+8/\(∀j,q0-5<=j->j<k->¬fdP xa xb xc xd y m l x u j)/\Fr 67 a [(9,iv k),(8,iv q0),(16,iv ((i:Nat):Int)),(15,iv ((N:Nat):Int)),(14,.slice (some ⟨gr,0,none⟩) N cap),(3,.pointer (some ⟨g3,0,none⟩)),(2,.pointer (some ⟨g2,0,none⟩))]/\St w wv [(gr,fM (fiL y m)++more),(g3,[.bool bpx,.slice adpx npx cpx,.slice aepx mpx dpx,.bool bpy,.slice adpy npy cpy,.slice aepy mpy dpy]),(g2,[iv y,iv m,.bool l,iv x,.bool u])] []/\mq=(q0+8-k:Int).toNat) ((q0+8-(q0-5):Int).toNat) ?_ ?_
      ·exact⟨(q0-5:Int),(by omega),(by omega),(fun j h0 h1=>absurd h1 (by omega)),Fr.pick (L':=[(9,iv (q0-5)),(8,iv q0),(16,iv ((i:Nat):Int)),(15,iv ((N:Nat):Int)),(14,.slice (some ⟨gr,0,none⟩) N cap),(3,.pointer (some ⟨g3,0,none⟩)),(2,.pointer (some ⟨g2,0,none⟩))]) hF [0,3,24,25,26,27,28] rfl,st.pick [1,2,3] [] rfl rfl (by decide),rfl⟩
      ·rintro mq a w9 ⟨k,hk0,hk1,hin,hF,st,hm⟩
       refine wp_seq<|wq<|oM hF 0 rfl rfl fun a hF=>oM hF 2 rfl rfl fun a hF=>oV hF (aq hF.o ao aa (aO (by omega) (by omega))) rfl fun a hF=>?_
       by_cases hc10:k<=q0+7
       ·refine oU hF 2 0 (bv (c:=true) (aK hc10)) rfl rfl rfl fun a hF=>E.nil<|wp_cond_true hF.o<|wp_skip<|E.norm<|wp_seq<|wp_block<|wp_seq ?_
        by_cases hc11:(amX k xa xb xc xd)%30+1=x
        ·refine E.rg 11 aG hF [44,45,46,47,48,49,50,51,52,53,54] [_,_,_,_,_,.ex (.bool true),.ex (.bool true),.ex (iv k),.ex (.agg #[.bool bpx,.slice adpx npx cpx,.slice aepx mpx dpx,.bool bpy,.slice adpy npy cpy,.slice aepy mpy dpy]),.ex (.agg #[iv ((smV (amL k xa xb xc xd)+1)/12-1955883044),iv ((smV (amL k xa xb xc xd)+1)%12+1),.bool (decide (smV (au (amL k xa xb xc xd))=smV (amL k xa xb xc xd))),iv ((amX k xa xb xc xd)%30+1),.bool (decide ((amX (k-1) xa xb xc xd)=(amX k xa xb xc xd)))]),.ex (.agg #[iv y,iv m,.bool l,iv x,.bool u])] (by decide+kernel) rfl rfl rfl ⟨rm 4 rfl,rb st d9 9 1 rfl,ck st k46 rfl fun _ s=>a7 (fK k xa xb xc xd (amX k xa xb xc xd) _ _ (ho.below s.bel) (by first|assumption|constructor<;>omega) (by omega) (by omega) rfl),rfd 10 (fun _=>iq (p:=3) rfl) rfl,rld rfl fun _ hb=>(aP (v:= iv x) ((st.bk 2 rfl).below hb) rfl),(by intro a' w' hF' hb hd;have e46:=tE hd 0 rfl;have e48:=tE hd 1 rfl;exact dv0 (aq e46 e48 aa (aI (aQ (c:=true) (aK hc11)) (by simp))) rfl rfl rfl),(by intro a' w' hF' hb hd;have e49:=tE hd 0 rfl;exact dv0 (aB e49) rfl rfl rfl),(by intro a' w' hF' hb hd;have e50:=tE hd 0 rfl;exact dv1 (ag rfl rfl e50 rfl) (aB (hF'.at 4 rfl)) rfl rfl),(by intro a' w' hF' hb hd;have e50:=tE hd 0 rfl;exact dv1 (ag rfl rfl e50 rfl) (av (hF'.at 9 rfl) (aX d9 ((st.bk 1 rfl).below hb) rfl)) rfl rfl),(by intro a' w' hF' hb hd;have e50:=tE hd 2 rfl;have e51:=tE hd 0 rfl;have e52:=tE hd 1 rfl;exact jn (ag rfl rfl e50 rfl) (rk Lm (aF e51 e52)) (nF k xa xb xc xd (amL k xa xb xc xd) (amX k xa xb xc xd) (amX (k-1) xa xb xc xd) _ _ (ho.below (aC st.bel hb)) (by first|assumption|constructor<;>omega) (by omega) (by omega) rfl rfl rfl) (fun _=>rfl) rfl),(by intro a' w' hF' hb hd;have e50:=tE hd 0 rfl;exact dv1 (ag rfl rfl e50 rfl) (av (hF'.at 10 rfl) (aX eC ((st.bk 2 rfl).below hb) rfl)) rfl rfl),trivial⟩ ?_
         intro a w12 hF bb hall
         replace st:=st.to bb
         replace hF:=rE hall hF 6 rfl rfl
         replace hF:=rE hall hF 9 rfl rfl
         replace hF:=rE hall hF 10 rfl rfl
         clear hall bb
         by_cases hc13:((smV (amL k xa xb xc xd)+1)/12-1955883044)=y/\((smV (amL k xa xb xc xd)+1)%12+1)=m/\(decide (smV (au (amL k xa xb xc xd))=smV (amL k xa xb xc xd)))=l/\((amX k xa xb xc xd)%30+1)=x/\(decide ((amX (k-1) xa xb xc xd)=(amX k xa xb xc xd)))=u
         ·refine og hF (aq hF.p hF.o nT (oe (aK hc13))) 2 rfl rfl rfl fun a hF=>oV hF (aH (hF.at 3 rfl) hF.o) rfl fun a hF=>oM hF 0 rfl rfl fun a hF=>og hF (aB (hF.at 10 rfl)) 0 rfl rfl rfl fun a hF=>?_
          by_cases hc14:(-3000000)<=k
          ·refine og hF (aq hF.o ao aa (aI (cJ (c:=true) (aK hc14)) (by simp))) 1 rfl rfl rfl fun a hF=>oV hF (aH hF.q hF.o) rfl fun a hF=>oM hF 0 rfl rfl fun a hF=>og hF (aB (hF.at 14 rfl)) 0 rfl rfl rfl fun a hF=>?_
           by_cases hc15:k<=3000000
           ·refine og hF (aq hF.o ao aa (aI (bv (c:=true) (aK hc15)) (by simp))) 1 rfl rfl rfl fun a hF=>oV hF (aH hF.q hF.o) rfl fun a hF=>E.nil<|wp_cond_true hF.o<|wq ?_
            refine oM hF 17 rfl rfl fun a hF=>oA hF 0 rfl rfl fun a hF=>oC hF rfl fun a hF=>nr ?_
            have bel:=st.bel
            refine bodyPost_ret (dT Tryz.results19 hF.p hF.o) hF.dfr ?_
            have hfx:=xC hok (n:=k) ⟨hc14,hc15,hc13.1,hc13.2.1,hc13.2.2.1,hc13.2.2.2.1,hc13.2.2.2.2⟩
            exact⟨jp hfx.1 hfx.2,bel⟩
           ·refine og hF (aq hF.o ao aa (aI (bv (c:=false) (aL hc15)) (by simp))) 1 rfl rfl rfl fun a hF=>oV hF (aH hF.q hF.o) rfl fun a hF=>E.nil<|wp_cond_false hF.o<|wp_skip<|E.blk<|E.norm<|E.seq<|oM hF 17 rfl rfl fun a hF=>oV hF (aq hF.o ao aa (aO (by omega) (by omega))) rfl fun a hF=>oE hF 0 rfl rfl fun a hF=>E.nil0 ?_
            refine E.norm ?_
            exact⟨(q0+8-(k+1):Int).toNat,by omega,⟨(k+1:Int),(by omega),(by omega),(fun j h0 h1 p=>(Int.lt_or_eq_of_le (Int.le_of_lt_add_one h1)).elim (fun h=>hin j h0 h p) (fun h=>by subst h;exact hc15 p.2.1)),Fr.pick (L':=[(9,iv (k+1)),(8,iv q0),(16,iv ((i:Nat):Int)),(15,iv ((N:Nat):Int)),(14,.slice (some ⟨gr,0,none⟩) N cap),(3,.pointer (some ⟨g3,0,none⟩)),(2,.pointer (some ⟨g2,0,none⟩))]) hF [0,20,21,22,23,24,25] rfl,st.pick [0,1,2] [] rfl rfl (by decide),rfl⟩⟩
          ·refine og hF (aq hF.o ao aa (aI (cJ (c:=false) (aL hc14)) (by simp))) 1 rfl rfl rfl fun a hF=>oV hF (aH hF.q hF.o) rfl fun a hF=>oM hF 0 rfl rfl fun a hF=>nu hF 0 rfl rfl rfl fun a hF=>nu hF 1 rfl rfl rfl fun a hF=>oV hF (aJ hF.q ao) rfl fun a hF=>E.nil<|wp_cond_false hF.o<|wp_skip<|E.blk<|E.norm<|E.seq<|oM hF 17 rfl rfl fun a hF=>oV hF (aq hF.o ao aa (aO (by omega) (by omega))) rfl fun a hF=>oE hF 0 rfl rfl fun a hF=>?_
           refine E.nil0<|E.norm ?_
           exact⟨(q0+8-(k+1):Int).toNat,by omega,⟨(k+1:Int),(by omega),(by omega),(fun j h0 h1 p=>(Int.lt_or_eq_of_le (Int.le_of_lt_add_one h1)).elim (fun h=>hin j h0 h p) (fun h=>by subst h;exact hc14 p.1)),Fr.pick (L':=[(9,iv (k+1)),(8,iv q0),(16,iv ((i:Nat):Int)),(15,iv ((N:Nat):Int)),(14,.slice (some ⟨gr,0,none⟩) N cap),(3,.pointer (some ⟨g3,0,none⟩)),(2,.pointer (some ⟨g2,0,none⟩))]) hF [0,20,21,22,23,24,25] rfl,st.pick [0,1,2] [] rfl rfl (by decide),rfl⟩⟩
         ·refine og hF (aq hF.p hF.o nT (oe (aL hc13))) 2 rfl rfl rfl fun a hF=>oV hF (aH (hF.at 3 rfl) hF.o) rfl fun a hF=>oM hF 0 rfl rfl fun a hF=>nu hF 0 rfl rfl rfl fun a hF=>nu hF 1 rfl rfl rfl fun a hF=>oV hF (aJ hF.q ao) rfl fun a hF=>oM hF 0 rfl rfl fun a hF=>nu hF 0 rfl rfl rfl fun a hF=>nu hF 1 rfl rfl rfl fun a hF=>oV hF (aJ hF.q ao) rfl fun a hF=>E.nil<|wp_cond_false hF.o ?_
          refine wp_skip<|E.blk<|E.norm<|E.seq<|oM hF 17 rfl rfl fun a hF=>oV hF (aq hF.o ao aa (aO (by omega) (by omega))) rfl fun a hF=>oE hF 0 rfl rfl fun a hF=>E.nil0<|E.norm ?_
          exact⟨(q0+8-(k+1):Int).toNat,by omega,⟨(k+1:Int),(by omega),(by omega),(fun j h0 h1 p=>(Int.lt_or_eq_of_le (Int.le_of_lt_add_one h1)).elim (fun h=>hin j h0 h p) (fun h=>by subst h;exact hc13 ⟨p.2.2.1,p.2.2.2.1,p.2.2.2.2.1,p.2.2.2.2.2.1,p.2.2.2.2.2.2⟩)),Fr.pick (L':=[(9,iv (k+1)),(8,iv q0),(16,iv ((i:Nat):Int)),(15,iv ((N:Nat):Int)),(14,.slice (some ⟨gr,0,none⟩) N cap),(3,.pointer (some ⟨g3,0,none⟩)),(2,.pointer (some ⟨g2,0,none⟩))]) hF [0,20,21,22,23,24,25] rfl,st.pick [0,1,2] [] rfl rfl (by decide),rfl⟩⟩
        ·refine E.rg 11 aG hF [44,45,46,47,48,49,50,51,52,53,54] [_,_,_,_,_,.ex (.bool false),.ex (.bool false),.ex undef,.ex undef,.ex undef,.ex undef] (by decide+kernel) rfl rfl rfl ⟨rm 4 rfl,rb st d9 9 1 rfl,ck st k46 rfl fun _ s=>a7 (fK k xa xb xc xd (amX k xa xb xc xd) _ _ (ho.below s.bel) (by first|assumption|constructor<;>omega) (by omega) (by omega) rfl),rfd 10 (fun _=>iq (p:=3) rfl) rfl,rld rfl fun _ hb=>(aP (v:= iv x) ((st.bk 2 rfl).below hb) rfl),(by intro a' w' hF' hb hd;have e46:=tE hd 0 rfl;have e48:=tE hd 1 rfl;exact dv0 (aq e46 e48 aa (aI (aQ (c:=false) (aL hc11)) (by simp))) rfl rfl rfl),(by intro a' w' hF' hb hd;have e49:=tE hd 0 rfl;exact dv0 (aB e49) rfl rfl rfl),(by intro a' w' hF' hb hd;have e50:=tE hd 0 rfl;exact dJ (ag rfl rfl e50 rfl) ⟨rfl,by decide⟩),(by intro a' w' hF' hb hd;have e50:=tE hd 0 rfl;exact dJ (ag rfl rfl e50 rfl) ⟨rfl,by decide⟩),(by intro a' w' hF' hb hd;have e50:=tE hd 2 rfl;exact dJ (ag rfl rfl e50 rfl) ⟨rfl,by decide⟩),(by intro a' w' hF' hb hd;have e50:=tE hd 0 rfl;exact dJ (ag rfl rfl e50 rfl) ⟨rfl,by decide⟩),trivial⟩ ?_
         intro a w16 hF bb hall
         replace st:=st.to bb
         replace hF:=rE hall hF 6 rfl rfl
         replace hF:=rE hall hF 9 rfl rfl
         replace hF:=rE hall hF 10 rfl rfl
         clear hall bb
         refine nu hF 2 rfl rfl rfl fun a hF=>oV hF (aJ (hF.at 3 rfl) ao) rfl fun a hF=>oM hF 0 rfl rfl fun a hF=>nu hF 0 rfl rfl rfl fun a hF=>nu hF 1 rfl rfl rfl fun a hF=>oV hF (aJ hF.q ao) rfl fun a hF=>oM hF 0 rfl rfl fun a hF=>nu hF 0 rfl rfl rfl fun a hF=>nu hF 1 rfl rfl rfl fun a hF=>oV hF (aJ hF.q ao) rfl fun a hF=>E.nil<|wp_cond_false hF.o ?_
         refine wp_skip<|E.blk<|E.norm<|E.seq<|oM hF 17 rfl rfl fun a hF=>oV hF (aq hF.o ao aa (aO (by omega) (by omega))) rfl fun a hF=>oE hF 0 rfl rfl fun a hF=>E.nil0<|E.norm ?_
         exact⟨(q0+8-(k+1):Int).toNat,by omega,⟨(k+1:Int),(by omega),(by omega),(fun j h0 h1 p=>(Int.lt_or_eq_of_le (Int.le_of_lt_add_one h1)).elim (fun h=>hin j h0 h p) (fun h=>by subst h;exact hc11 p.2.2.2.2.2.1)),Fr.pick (L':=[(9,iv (k+1)),(8,iv q0),(16,iv ((i:Nat):Int)),(15,iv ((N:Nat):Int)),(14,.slice (some ⟨gr,0,none⟩) N cap),(3,.pointer (some ⟨g3,0,none⟩)),(2,.pointer (some ⟨g2,0,none⟩))]) hF [0,20,21,22,23,24,25] rfl,st.pick [0,1,2] [] rfl rfl (by decide),rfl⟩⟩
       ·refine oU hF 2 0 (bv (c:=false) (aL hc10)) rfl rfl rfl fun a hF=>E.nil<|wp_cond_false hF.o<|wp_exit<|E.past<|E.past<|E.out (id:=2)<|E.blk<|E.norm<|E.seq<|oV hF (aq (hF.at 6 rfl) ao aa (aO (by omega) (by omega))) rfl fun a hF=>oS hF (aB hF.o) rfl fun a hF=>?_
        refine E.nil0<|E.norm ?_
        replace hF:Fr 67 a [(16,iv ((i+1:Nat):Int)),(66,iv (((i:Nat):Int)+1)),(41,.bool false),(40,iv (q0+7)),(39,iv q0),(38,iv k),(9,iv k),(8,iv q0),(15,iv ((N:Nat):Int)),(14,.slice (some ⟨gr,0,none⟩) N cap),(3,.pointer (some ⟨g3,0,none⟩)),(2,.pointer (some ⟨g2,0,none⟩))]:=by rw[show((i+1:Nat):Int)=((i:Nat):Int)+1 from by omega];exact hF
        exact⟨(N-(i+1)),by omega,⟨(i+1),(by omega),(fun n p=>by obtain⟨j,h0,h1,e⟩:=hno n p;exact if z:j=i then(by exfalso;have q:amL n xa xb xc xd=fiD y m i:=(by rw[<-z];exact e);have r:=sK hok p;rw[q] at r;exact absurd p (hin n (by omega) (by omega))) else⟨j,(by omega),h1,e⟩),Fr.pick (L':=[(16,iv ((i+1:Nat):Int)),(15,iv ((N:Nat):Int)),(14,.slice (some ⟨gr,0,none⟩) N cap),(3,.pointer (some ⟨g3,0,none⟩)),(2,.pointer (some ⟨g2,0,none⟩))]) hF [0,8,9,10,11] rfl,st.pick [0,1,2] [] rfl rfl (by decide),rfl⟩⟩
     ·refine oV hF (aq hF.q hF.o cy (dI (d:=true) (by rw[eq_false_of_ne_true hc8];rfl))) rfl fun a hF=>E.nil<|wp_cond_true hF.o<|wp_exit<|E.past<|E.out (id:=1)<|E.norm<|E.seq<|oV hF (aq (hF.at 12 rfl) ao aa (aO (by omega) (by omega))) rfl fun a hF=>oS hF (aB hF.o) rfl fun a hF=>E.nil0<|E.norm ?_
      replace hF:Fr 67 a [(16,iv ((i+1:Nat):Int)),(66,iv (((i:Nat):Int)+1)),(27,.bool true),(26,.bool l),(25,.pointer (some ⟨g2,2,none⟩)),(24,.bool true),(23,iv (smV (au (fiD y m i))%12)),(22,.pointer (some ⟨g7,3,none⟩)),(21,iv (smV (fiD y m i)%12)),(20,.pointer (some ⟨g7,2,none⟩)),(7,.pointer (some ⟨g7,0,none⟩)),(19,.agg #[iv (fiD y m i),iv (au (fiD y m i)),iv (smV (fiD y m i)%12),iv (smV (au (fiD y m i))%12)]),(18,.pointer (some ⟨gr,4*i,none⟩)),(17,.bool true),(15,iv ((N:Nat):Int)),(14,.slice (some ⟨gr,0,none⟩) N cap),(3,.pointer (some ⟨g3,0,none⟩)),(2,.pointer (some ⟨g2,0,none⟩))]:=by rw[show((i+1:Nat):Int)=((i:Nat):Int)+1 from by omega];exact hF
      exact⟨(N-(i+1)),by omega,⟨(i+1),(by omega),(fun n p=>by obtain⟨j,h0,h1,e⟩:=hno n p;exact if z:j=i then(by exfalso;have q:amL n xa xb xc xd=fiD y m i:=(by rw[<-z];exact e);have r:=of_decide_eq_false (p.2.2.2.2.1.trans (eq_false_of_ne_true hc8));rw[q] at r;omega) else⟨j,(by omega),h1,e⟩),Fr.pick (L':=[(16,iv ((i+1:Nat):Int)),(15,iv ((N:Nat):Int)),(14,.slice (some ⟨gr,0,none⟩) N cap),(3,.pointer (some ⟨g3,0,none⟩)),(2,.pointer (some ⟨g2,0,none⟩))]) hF [0,14,15,16,17] rfl,st.pick [1,2,3] [] rfl rfl (by decide),rfl⟩⟩
    ·refine oU hF 2 0 (aQ (c:=false) (aL hc7)) rfl rfl rfl fun a hF=>oV hF (az (hF.at 13 rfl) (wU (p:=2) rfl)) rfl fun a hF=>oV hF (av hF.o (kO (v:= .bool l) (st.bk 3 rfl) rfl)) rfl fun a hF=>?_
     by_cases hc17:l=true
     ·refine oV hF (aq hF.q hF.o cy (dI (d:=true) (by rw[hc17];rfl))) rfl fun a hF=>E.nil<|wp_cond_true hF.o<|wp_exit<|E.past<|E.out (id:=1)<|E.norm<|E.seq<|oV hF (aq (hF.at 12 rfl) ao aa (aO (by omega) (by omega))) rfl fun a hF=>oS hF (aB hF.o) rfl fun a hF=>E.nil0<|E.norm ?_
      replace hF:Fr 67 a [(16,iv ((i+1:Nat):Int)),(66,iv (((i:Nat):Int)+1)),(27,.bool true),(26,.bool l),(25,.pointer (some ⟨g2,2,none⟩)),(24,.bool false),(23,iv (smV (au (fiD y m i))%12)),(22,.pointer (some ⟨g7,3,none⟩)),(21,iv (smV (fiD y m i)%12)),(20,.pointer (some ⟨g7,2,none⟩)),(7,.pointer (some ⟨g7,0,none⟩)),(19,.agg #[iv (fiD y m i),iv (au (fiD y m i)),iv (smV (fiD y m i)%12),iv (smV (au (fiD y m i))%12)]),(18,.pointer (some ⟨gr,4*i,none⟩)),(17,.bool true),(15,iv ((N:Nat):Int)),(14,.slice (some ⟨gr,0,none⟩) N cap),(3,.pointer (some ⟨g3,0,none⟩)),(2,.pointer (some ⟨g2,0,none⟩))]:=by rw[show((i+1:Nat):Int)=((i:Nat):Int)+1 from by omega];exact hF
      exact⟨(N-(i+1)),by omega,⟨(i+1),(by omega),(fun n p=>by obtain⟨j,h0,h1,e⟩:=hno n p;exact if z:j=i then(by exfalso;have q:amL n xa xb xc xd=fiD y m i:=(by rw[<-z];exact e);have r:=of_decide_eq_true (p.2.2.2.2.1.trans hc17);rw[q] at r;omega) else⟨j,(by omega),h1,e⟩),Fr.pick (L':=[(16,iv ((i+1:Nat):Int)),(15,iv ((N:Nat):Int)),(14,.slice (some ⟨gr,0,none⟩) N cap),(3,.pointer (some ⟨g3,0,none⟩)),(2,.pointer (some ⟨g2,0,none⟩))]) hF [0,14,15,16,17] rfl,st.pick [1,2,3] [] rfl rfl (by decide),rfl⟩⟩
     ·refine oV hF (aq hF.q hF.o cy (dI (d:=false) (by rw[eq_false_of_ne_true hc17];rfl))) rfl fun a hF=>E.nil<|wp_cond_false hF.o<|wp_skip<|E.norm<|wq<|oV hF (az (hF.at 8 rfl) (kH (p:=0) rfl)) rfl fun a hF=>oV hF (av hF.o (aP (v:= iv (fiD y m i)) (st.bk 0 rfl) rfl)) rfl fun a hF=>oV hF (az (hF.at 18 rfl) (iq (p:=3) rfl)) rfl fun a hF=>oV hF (av hF.o (aP (v:= iv x) (st.bk 3 rfl) rfl)) rfl fun a hF=>oV hF (aq hF.o ao aa (bE (by omega) (by omega))) rfl fun a hF=>oV hF (aq ao hF.o aa (dG (by omega) (by omega))) rfl fun a hF=>oV hF (aq hF.o ao aa (ki (a:=63*(x-1)) (b:=64) (by omega) (by omega) (by omega) (by omega))) rfl fun a hF=>?_
      refine oV hF (aq (hF.at 5 rfl) hF.o aa (aO (by omega) (by omega))) rfl fun a hF=>oA hF 0 rfl rfl fun a hF=>?_
      obtain⟨q0,hq0⟩:∃z:Int,z=fiD y m i+63*(x-1)/64:=⟨_,rfl⟩
      replace hF:Fr 67 a [(8,iv q0),(35,iv ((fiD y m i)+((63*(x-1))/64))),(34,iv ((63*(x-1))/64)),(33,iv (63*(x-1))),(32,iv (x-1)),(31,iv x),(30,.pointer (some ⟨g2,3,none⟩)),(29,iv (fiD y m i)),(28,.pointer (some ⟨g7,0,none⟩)),(27,.bool false),(26,.bool l),(25,.pointer (some ⟨g2,2,none⟩)),(24,.bool false),(23,iv (smV (au (fiD y m i))%12)),(22,.pointer (some ⟨g7,3,none⟩)),(21,iv (smV (fiD y m i)%12)),(20,.pointer (some ⟨g7,2,none⟩)),(7,.pointer (some ⟨g7,0,none⟩)),(19,.agg #[iv (fiD y m i),iv (au (fiD y m i)),iv (smV (fiD y m i)%12),iv (smV (au (fiD y m i))%12)]),(18,.pointer (some ⟨gr,4*i,none⟩)),(17,.bool true),(16,iv ((i:Nat):Int)),(15,iv ((N:Nat):Int)),(14,.slice (some ⟨gr,0,none⟩) N cap),(3,.pointer (some ⟨g3,0,none⟩)),(2,.pointer (some ⟨g2,0,none⟩))]:=by rw[hq0];exact hF
      refine nq<|oM hF 0 rfl rfl fun a hF=>oV hF (aq hF.o ao aa (bE (by omega) (by omega))) rfl fun a hF=>oA hF 0 rfl rfl fun a hF=>E.nil<|wp_block ?_
      refine E.loop (fun mq a wv=>∃(k:Int),q0-5<=k/\k<=q0+8/\(∀j,q0-5<=j->j<k->¬fdP xa xb xc xd y m l x u j)/\Fr 67 a [(9,iv k),(8,iv q0),(16,iv ((i:Nat):Int)),(15,iv ((N:Nat):Int)),(14,.slice (some ⟨gr,0,none⟩) N cap),(3,.pointer (some ⟨g3,0,none⟩)),(2,.pointer (some ⟨g2,0,none⟩))]/\St w wv [(gr,fM (fiL y m)++more),(g3,[.bool bpx,.slice adpx npx cpx,.slice aepx mpx dpx,.bool bpy,.slice adpy npy cpy,.slice aepy mpy dpy]),(g2,[iv y,iv m,.bool l,iv x,.bool u])] []/\mq=(q0+8-k:Int).toNat) ((q0+8-(q0-5):Int).toNat) ?_ ?_
      ·exact⟨(q0-5:Int),(by omega),(by omega),(fun j h0 h1=>absurd h1 (by omega)),Fr.pick (L':=[(9,iv (q0-5)),(8,iv q0),(16,iv ((i:Nat):Int)),(15,iv ((N:Nat):Int)),(14,.slice (some ⟨gr,0,none⟩) N cap),(3,.pointer (some ⟨g3,0,none⟩)),(2,.pointer (some ⟨g2,0,none⟩))]) hF [0,3,24,25,26,27,28] rfl,st.pick [1,2,3] [] rfl rfl (by decide),rfl⟩
      ·rintro mq a w18 ⟨k,hk0,hk1,hin,hF,st,hm⟩
       refine wp_seq<|wq<|oM hF 0 rfl rfl fun a hF=>oM hF 2 rfl rfl fun a hF=>oV hF (aq hF.o ao aa (aO (by omega) (by omega))) rfl fun a hF=>?_
       by_cases hc19:k<=q0+7
       ·refine oU hF 2 0 (bv (c:=true) (aK hc19)) rfl rfl rfl fun a hF=>E.nil<|wp_cond_true hF.o<|wp_skip<|E.norm<|wp_seq<|wp_block<|wp_seq ?_
        by_cases hc20:(amX k xa xb xc xd)%30+1=x
        ·refine E.rg 11 aG hF [44,45,46,47,48,49,50,51,52,53,54] [_,_,_,_,_,.ex (.bool true),.ex (.bool true),.ex (iv k),.ex (.agg #[.bool bpx,.slice adpx npx cpx,.slice aepx mpx dpx,.bool bpy,.slice adpy npy cpy,.slice aepy mpy dpy]),.ex (.agg #[iv ((smV (amL k xa xb xc xd)+1)/12-1955883044),iv ((smV (amL k xa xb xc xd)+1)%12+1),.bool (decide (smV (au (amL k xa xb xc xd))=smV (amL k xa xb xc xd))),iv ((amX k xa xb xc xd)%30+1),.bool (decide ((amX (k-1) xa xb xc xd)=(amX k xa xb xc xd)))]),.ex (.agg #[iv y,iv m,.bool l,iv x,.bool u])] (by decide+kernel) rfl rfl rfl ⟨rm 4 rfl,rb st d9 9 1 rfl,ck st k46 rfl fun _ s=>a7 (fK k xa xb xc xd (amX k xa xb xc xd) _ _ (ho.below s.bel) (by first|assumption|constructor<;>omega) (by omega) (by omega) rfl),rfd 10 (fun _=>iq (p:=3) rfl) rfl,rld rfl fun _ hb=>(aP (v:= iv x) ((st.bk 2 rfl).below hb) rfl),(by intro a' w' hF' hb hd;have e46:=tE hd 0 rfl;have e48:=tE hd 1 rfl;exact dv0 (aq e46 e48 aa (aI (aQ (c:=true) (aK hc20)) (by simp))) rfl rfl rfl),(by intro a' w' hF' hb hd;have e49:=tE hd 0 rfl;exact dv0 (aB e49) rfl rfl rfl),(by intro a' w' hF' hb hd;have e50:=tE hd 0 rfl;exact dv1 (ag rfl rfl e50 rfl) (aB (hF'.at 4 rfl)) rfl rfl),(by intro a' w' hF' hb hd;have e50:=tE hd 0 rfl;exact dv1 (ag rfl rfl e50 rfl) (av (hF'.at 9 rfl) (aX d9 ((st.bk 1 rfl).below hb) rfl)) rfl rfl),(by intro a' w' hF' hb hd;have e50:=tE hd 2 rfl;have e51:=tE hd 0 rfl;have e52:=tE hd 1 rfl;exact jn (ag rfl rfl e50 rfl) (rk Lm (aF e51 e52)) (nF k xa xb xc xd (amL k xa xb xc xd) (amX k xa xb xc xd) (amX (k-1) xa xb xc xd) _ _ (ho.below (aC st.bel hb)) (by first|assumption|constructor<;>omega) (by omega) (by omega) rfl rfl rfl) (fun _=>rfl) rfl),(by intro a' w' hF' hb hd;have e50:=tE hd 0 rfl;exact dv1 (ag rfl rfl e50 rfl) (av (hF'.at 10 rfl) (aX eC ((st.bk 2 rfl).below hb) rfl)) rfl rfl),trivial⟩ ?_
         intro a w21 hF bb hall
         replace st:=st.to bb
         replace hF:=rE hall hF 6 rfl rfl
         replace hF:=rE hall hF 9 rfl rfl
         replace hF:=rE hall hF 10 rfl rfl
         clear hall bb
         by_cases hc22:((smV (amL k xa xb xc xd)+1)/12-1955883044)=y/\((smV (amL k xa xb xc xd)+1)%12+1)=m/\(decide (smV (au (amL k xa xb xc xd))=smV (amL k xa xb xc xd)))=l/\((amX k xa xb xc xd)%30+1)=x/\(decide ((amX (k-1) xa xb xc xd)=(amX k xa xb xc xd)))=u
         ·refine og hF (aq hF.p hF.o nT (oe (aK hc22))) 2 rfl rfl rfl fun a hF=>oV hF (aH (hF.at 3 rfl) hF.o) rfl fun a hF=>oM hF 0 rfl rfl fun a hF=>og hF (aB (hF.at 10 rfl)) 0 rfl rfl rfl fun a hF=>?_
          by_cases hc23:(-3000000)<=k
          ·refine og hF (aq hF.o ao aa (aI (cJ (c:=true) (aK hc23)) (by simp))) 1 rfl rfl rfl fun a hF=>oV hF (aH hF.q hF.o) rfl fun a hF=>oM hF 0 rfl rfl fun a hF=>og hF (aB (hF.at 14 rfl)) 0 rfl rfl rfl fun a hF=>?_
           by_cases hc24:k<=3000000
           ·refine og hF (aq hF.o ao aa (aI (bv (c:=true) (aK hc24)) (by simp))) 1 rfl rfl rfl fun a hF=>oV hF (aH hF.q hF.o) rfl fun a hF=>E.nil<|wp_cond_true hF.o<|wq ?_
            refine oM hF 17 rfl rfl fun a hF=>oA hF 0 rfl rfl fun a hF=>oC hF rfl fun a hF=>nr ?_
            have bel:=st.bel
            refine bodyPost_ret (dT Tryz.results19 hF.p hF.o) hF.dfr ?_
            have hfx:=xC hok (n:=k) ⟨hc23,hc24,hc22.1,hc22.2.1,hc22.2.2.1,hc22.2.2.2.1,hc22.2.2.2.2⟩
            exact⟨jp hfx.1 hfx.2,bel⟩
           ·refine og hF (aq hF.o ao aa (aI (bv (c:=false) (aL hc24)) (by simp))) 1 rfl rfl rfl fun a hF=>oV hF (aH hF.q hF.o) rfl fun a hF=>E.nil<|wp_cond_false hF.o<|wp_skip<|E.blk<|E.norm<|E.seq<|oM hF 17 rfl rfl fun a hF=>oV hF (aq hF.o ao aa (aO (by omega) (by omega))) rfl fun a hF=>oE hF 0 rfl rfl fun a hF=>E.nil0 ?_
            refine E.norm ?_
            exact⟨(q0+8-(k+1):Int).toNat,by omega,⟨(k+1:Int),(by omega),(by omega),(fun j h0 h1 p=>(Int.lt_or_eq_of_le (Int.le_of_lt_add_one h1)).elim (fun h=>hin j h0 h p) (fun h=>by subst h;exact hc24 p.2.1)),Fr.pick (L':=[(9,iv (k+1)),(8,iv q0),(16,iv ((i:Nat):Int)),(15,iv ((N:Nat):Int)),(14,.slice (some ⟨gr,0,none⟩) N cap),(3,.pointer (some ⟨g3,0,none⟩)),(2,.pointer (some ⟨g2,0,none⟩))]) hF [0,20,21,22,23,24,25] rfl,st.pick [0,1,2] [] rfl rfl (by decide),rfl⟩⟩
          ·refine og hF (aq hF.o ao aa (aI (cJ (c:=false) (aL hc23)) (by simp))) 1 rfl rfl rfl fun a hF=>oV hF (aH hF.q hF.o) rfl fun a hF=>oM hF 0 rfl rfl fun a hF=>nu hF 0 rfl rfl rfl fun a hF=>nu hF 1 rfl rfl rfl fun a hF=>oV hF (aJ hF.q ao) rfl fun a hF=>E.nil<|wp_cond_false hF.o<|wp_skip<|E.blk<|E.norm<|E.seq<|oM hF 17 rfl rfl fun a hF=>oV hF (aq hF.o ao aa (aO (by omega) (by omega))) rfl fun a hF=>oE hF 0 rfl rfl fun a hF=>?_
           refine E.nil0<|E.norm ?_
           exact⟨(q0+8-(k+1):Int).toNat,by omega,⟨(k+1:Int),(by omega),(by omega),(fun j h0 h1 p=>(Int.lt_or_eq_of_le (Int.le_of_lt_add_one h1)).elim (fun h=>hin j h0 h p) (fun h=>by subst h;exact hc23 p.1)),Fr.pick (L':=[(9,iv (k+1)),(8,iv q0),(16,iv ((i:Nat):Int)),(15,iv ((N:Nat):Int)),(14,.slice (some ⟨gr,0,none⟩) N cap),(3,.pointer (some ⟨g3,0,none⟩)),(2,.pointer (some ⟨g2,0,none⟩))]) hF [0,20,21,22,23,24,25] rfl,st.pick [0,1,2] [] rfl rfl (by decide),rfl⟩⟩
         ·refine og hF (aq hF.p hF.o nT (oe (aL hc22))) 2 rfl rfl rfl fun a hF=>oV hF (aH (hF.at 3 rfl) hF.o) rfl fun a hF=>oM hF 0 rfl rfl fun a hF=>nu hF 0 rfl rfl rfl fun a hF=>nu hF 1 rfl rfl rfl fun a hF=>oV hF (aJ hF.q ao) rfl fun a hF=>oM hF 0 rfl rfl fun a hF=>nu hF 0 rfl rfl rfl fun a hF=>nu hF 1 rfl rfl rfl fun a hF=>oV hF (aJ hF.q ao) rfl fun a hF=>E.nil<|wp_cond_false hF.o ?_
          refine wp_skip<|E.blk<|E.norm<|E.seq<|oM hF 17 rfl rfl fun a hF=>oV hF (aq hF.o ao aa (aO (by omega) (by omega))) rfl fun a hF=>oE hF 0 rfl rfl fun a hF=>E.nil0<|E.norm ?_
          exact⟨(q0+8-(k+1):Int).toNat,by omega,⟨(k+1:Int),(by omega),(by omega),(fun j h0 h1 p=>(Int.lt_or_eq_of_le (Int.le_of_lt_add_one h1)).elim (fun h=>hin j h0 h p) (fun h=>by subst h;exact hc22 ⟨p.2.2.1,p.2.2.2.1,p.2.2.2.2.1,p.2.2.2.2.2.1,p.2.2.2.2.2.2⟩)),Fr.pick (L':=[(9,iv (k+1)),(8,iv q0),(16,iv ((i:Nat):Int)),(15,iv ((N:Nat):Int)),(14,.slice (some ⟨gr,0,none⟩) N cap),(3,.pointer (some ⟨g3,0,none⟩)),(2,.pointer (some ⟨g2,0,none⟩))]) hF [0,20,21,22,23,24,25] rfl,st.pick [0,1,2] [] rfl rfl (by decide),rfl⟩⟩
        ·refine E.rg 11 aG hF [44,45,46,47,48,49,50,51,52,53,54] [_,_,_,_,_,.ex (.bool false),.ex (.bool false),.ex undef,.ex undef,.ex undef,.ex undef] (by decide+kernel) rfl rfl rfl ⟨rm 4 rfl,rb st d9 9 1 rfl,ck st k46 rfl fun _ s=>a7 (fK k xa xb xc xd (amX k xa xb xc xd) _ _ (ho.below s.bel) (by first|assumption|constructor<;>omega) (by omega) (by omega) rfl),rfd 10 (fun _=>iq (p:=3) rfl) rfl,rld rfl fun _ hb=>(aP (v:= iv x) ((st.bk 2 rfl).below hb) rfl),(by intro a' w' hF' hb hd;have e46:=tE hd 0 rfl;have e48:=tE hd 1 rfl;exact dv0 (aq e46 e48 aa (aI (aQ (c:=false) (aL hc20)) (by simp))) rfl rfl rfl),(by intro a' w' hF' hb hd;have e49:=tE hd 0 rfl;exact dv0 (aB e49) rfl rfl rfl),(by intro a' w' hF' hb hd;have e50:=tE hd 0 rfl;exact dJ (ag rfl rfl e50 rfl) ⟨rfl,by decide⟩),(by intro a' w' hF' hb hd;have e50:=tE hd 0 rfl;exact dJ (ag rfl rfl e50 rfl) ⟨rfl,by decide⟩),(by intro a' w' hF' hb hd;have e50:=tE hd 2 rfl;exact dJ (ag rfl rfl e50 rfl) ⟨rfl,by decide⟩),(by intro a' w' hF' hb hd;have e50:=tE hd 0 rfl;exact dJ (ag rfl rfl e50 rfl) ⟨rfl,by decide⟩),trivial⟩ ?_
         intro a w25 hF bb hall
         replace st:=st.to bb
         replace hF:=rE hall hF 6 rfl rfl
         replace hF:=rE hall hF 9 rfl rfl
         replace hF:=rE hall hF 10 rfl rfl
         clear hall bb
         refine nu hF 2 rfl rfl rfl fun a hF=>oV hF (aJ (hF.at 3 rfl) ao) rfl fun a hF=>oM hF 0 rfl rfl fun a hF=>nu hF 0 rfl rfl rfl fun a hF=>nu hF 1 rfl rfl rfl fun a hF=>oV hF (aJ hF.q ao) rfl fun a hF=>oM hF 0 rfl rfl fun a hF=>nu hF 0 rfl rfl rfl fun a hF=>nu hF 1 rfl rfl rfl fun a hF=>oV hF (aJ hF.q ao) rfl fun a hF=>E.nil<|wp_cond_false hF.o ?_
         refine wp_skip<|E.blk<|E.norm<|E.seq<|oM hF 17 rfl rfl fun a hF=>oV hF (aq hF.o ao aa (aO (by omega) (by omega))) rfl fun a hF=>oE hF 0 rfl rfl fun a hF=>E.nil0<|E.norm ?_
         exact⟨(q0+8-(k+1):Int).toNat,by omega,⟨(k+1:Int),(by omega),(by omega),(fun j h0 h1 p=>(Int.lt_or_eq_of_le (Int.le_of_lt_add_one h1)).elim (fun h=>hin j h0 h p) (fun h=>by subst h;exact hc20 p.2.2.2.2.2.1)),Fr.pick (L':=[(9,iv (k+1)),(8,iv q0),(16,iv ((i:Nat):Int)),(15,iv ((N:Nat):Int)),(14,.slice (some ⟨gr,0,none⟩) N cap),(3,.pointer (some ⟨g3,0,none⟩)),(2,.pointer (some ⟨g2,0,none⟩))]) hF [0,20,21,22,23,24,25] rfl,st.pick [0,1,2] [] rfl rfl (by decide),rfl⟩⟩
       ·refine oU hF 2 0 (bv (c:=false) (aL hc19)) rfl rfl rfl fun a hF=>E.nil<|wp_cond_false hF.o<|wp_exit<|E.past<|E.past<|E.out (id:=2)<|E.blk<|E.norm<|E.seq<|oV hF (aq (hF.at 6 rfl) ao aa (aO (by omega) (by omega))) rfl fun a hF=>oS hF (aB hF.o) rfl fun a hF=>?_
        refine E.nil0<|E.norm ?_
        replace hF:Fr 67 a [(16,iv ((i+1:Nat):Int)),(66,iv (((i:Nat):Int)+1)),(41,.bool false),(40,iv (q0+7)),(39,iv q0),(38,iv k),(9,iv k),(8,iv q0),(15,iv ((N:Nat):Int)),(14,.slice (some ⟨gr,0,none⟩) N cap),(3,.pointer (some ⟨g3,0,none⟩)),(2,.pointer (some ⟨g2,0,none⟩))]:=by rw[show((i+1:Nat):Int)=((i:Nat):Int)+1 from by omega];exact hF
        exact⟨(N-(i+1)),by omega,⟨(i+1),(by omega),(fun n p=>by obtain⟨j,h0,h1,e⟩:=hno n p;exact if z:j=i then(by exfalso;have q:amL n xa xb xc xd=fiD y m i:=(by rw[<-z];exact e);have r:=sK hok p;rw[q] at r;exact absurd p (hin n (by omega) (by omega))) else⟨j,(by omega),h1,e⟩),Fr.pick (L':=[(16,iv ((i+1:Nat):Int)),(15,iv ((N:Nat):Int)),(14,.slice (some ⟨gr,0,none⟩) N cap),(3,.pointer (some ⟨g3,0,none⟩)),(2,.pointer (some ⟨g2,0,none⟩))]) hF [0,8,9,10,11] rfl,st.pick [0,1,2] [] rfl rfl (by decide),rfl⟩⟩
   ·refine oU hF 0 1 (a9 (c:=false) (aL hc5)) rfl rfl rfl fun a hF=>ns<|wp_cond_false hF.o<|wp_exit<|E.past<|E.past<|E.out (id:=0)<|E.norm<|wq ?_
    refine oC hF rfl fun a hF=>oC hF rfl fun a hF=>nr ?_
    have bel:=st.bel
    refine bodyPost_ret (dT Tryz.results19 hF.p hF.o) hF.dfr ?_
    have hfx:=uF (a:=xa) (b:=xb) (c:=xc) (d:=xd) (y:=y) (m:=m) (l:=l) (x:=x) (g:=u) (fun n p=>by obtain⟨j,h0,h1,_⟩:=hno n p;omega)
    exact⟨jp hfx.1 hfx.2,bel⟩
end Go.Proofs.YtddiipaomejcfaaGreatDoor
