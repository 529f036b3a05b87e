import Derived.Test.YtddiipaomejcfaaGreatDoorKA41
namespace Go.Proofs.YtddiipaomejcfaaGreatDoor
open Go.RowKit
set_option maxRecDepth 100000
set_option linter.unusedVariables false
set_option maxHeartbeats 8000000
theorem BU {P:Program} {w:World} {t:TypeId} {y0 y:Int} (h:(if 0<=y0 then y0%100 else -(-y0%100))=y):(binOp .rem t (iv y0) (iv 100)).run P w= .ok (iv y) w:=by
 subst h
 exact fU (by decide)
theorem uy {P:Program} {w:World} {t:TypeId} {a b y:Int} (h0:0<=a) (h:a%b=y) (hb:0<b:=by decide):(binOp .rem t (iv a) (iv b)).run P w= .ok (iv y) w:=by
 subst h
 exact dT hb h0
theorem findWithin_walk (n lu sk0 wa wb wc wd:Int) (w:World) (hT:a8 w):
 CV 7 #[iv n,iv lu,iv sk0,.agg #[iv wa,iv wb,iv wc,iv wd]] w (.bool true):=by
 obtain⟨pa,hpa⟩:∃z:Int,gA 60 120 wa wb=z:=⟨_,rfl⟩
 obtain⟨pb,hpb⟩:∃z:Int,gB wb=z:=⟨_,rfl⟩
 obtain⟨pc,hpc⟩:∃z:Int,gA 180 360 wc wd=z:=⟨_,rfl⟩
 obtain⟨pd,hpd⟩:∃z:Int,gB wd=z:=⟨_,rfl⟩
 have hok:bz pa pb pc pd:=by rw[<-hpa,<-hpb,<-hpc,<-hpd];exact gL wa wb wc wd
 have hp1:=hok.b0
 have hp2:=hok.b1
 have hp3:=hok.a0
 have hp4:=hok.a1
 have hp5:=hok.d0
 have hp6:=hok.d1
 have hp7:=hok.c0
 have hp8:=hok.c1
 obtain⟨yr,hyr⟩:∃z:Int,(if 0<=n then n%100 else -(-n%100))=z:=⟨_,rfl⟩
 have hyb:=jb (k:=n) (n:=100) (by decide)
 rw[hyr] at hyb
 obtain⟨mq,hmq⟩:∃z:Int,lu%256%12=z:=⟨_,rfl⟩
 have hmb:0<=mq/\mq<=11:=by omega
 obtain⟨xq,hxq⟩:∃z:Int,lu%256%30=z:=⟨_,rfl⟩
 have hxb:0<=xq/\xq<=29:=by omega
 have hfe:=jj (y:=1950+yr) (m:=1+mq) (by omega) (by omega) (by omega) (by omega)
 have hfb:=fun h:0<(fiL (1950+yr) (1+mq)).length =>sf (i:=0) h
 have st:=St.start w
 refine E.enter (nt:=86) (L:=[(0,iv n),(1,iv lu),(2,iv sk0),(3,.agg #[iv wa,iv wb,iv wc,iv wd])]) Tryz.func7 rfl rfl rfl (a6 (i:=0) rfl (a6 (i:=1) rfl (a6 (i:=2) rfl (a6 (i:=3) rfl dB)))) ?_
 intro a hF
 refine wq ?_
 refine S.boxI st hF hF.q rfl rfl fun g6 w1 a st hF=>?_
 refine bx st hF 4 rfl rfl fun g7 w2 a st hF=>?_
 refine oC hF rfl fun a hF=>ns<|wq<|cX st hF (rgc k13 fk) (jF _ (hT.below st.bel)) rfl fun w3 a st hF=>oV hF (dc hF.o (b7 _ false rfl)) rfl fun a hF=>E.nil<|wp_cond_false hF.o<|wp_skip<|E.norm<|wq<|oL hF st 3 0 j5 rfl rfl rfl rfl fun a hF=>?_
 refine cX st hF (rgc k15 (aL hF.o)) (gQ _ hpa hpb hpc hpd) rfl fun w4 a st hF=>S.new st hF 0 rfl aM rfl rfl rfl rfl rfl fun g9 w5 a st hF=>nq<|oM hF 8 rfl rfl fun a hF=>oV hF (ao hF.o aq ah (BU hyr)) rfl fun a hF=>oV hF (ao aq hF.o ah (aU (by omega) (by omega))) rfl fun a hF=>oM hF 12 rfl rfl fun a hF=>oV hF (ao hF.o aq ah (fV (n:=8) (by decide) (d:=256) (by decide) (by decide))) rfl fun a hF=>oV hF (ao hF.o aq ah (uy (by omega) hmq)) rfl fun a hF=>oV hF (ao aq hF.o ah (aU (by omega) (by omega))) rfl fun a hF=>?_
 by_cases hc6:(fiL (1950+yr) (1+mq)).length =0
 ·refine E.call hF (rgc k23 (aH (hF.at 4 rfl) hF.o)) (el (1950+yr) (1+mq) _ (hT.below st.bel) (by omega) (by omega) (by omega) (by omega)) rfl rfl rfl rfl ?_
  rintro e w7 ⟨ad0,cap0,rfl,_,bb⟩
  refine⟨_,rfl,?_⟩
  intro a hF
  rw[hc6] at hF
  replace st:=st.to bb
  clear bb
  refine oA hF 0 rfl rfl fun a hF=>ns<|wq<|oM hF 0 rfl rfl fun a hF=>oV hF (bC (aL hF.o) f8) rfl fun a hF=>oT hF 0 (aD (c:=true) (by decide)) rfl rfl fun a hF=>E.nil<|wp_cond_true hF.o<|wq ?_
  refine oS hF (a5 aq) rfl fun a hF=>nr ?_
  have bel:=st.bel
  refine rt Tryz.results7 hF 0 rfl ?_
  exact⟨rfl,bel⟩
 ·obtain⟨N,hNe⟩:∃N,(fiL (1950+yr) (1+mq)).length =N:=⟨_,rfl⟩
  have hN2:=pw (1950+yr) (1+mq)
  rw[hNe] at hN2
  have hN0:N≠0:=by rw[<-hNe];exact hc6
  refine E.call hF (rgc k23 (aH (hF.at 4 rfl) hF.o)) (el (1950+yr) (1+mq) _ (hT.below st.bel) (by omega) (by omega) (by omega) (by omega)) rfl rfl rfl rfl ?_
  rintro e w8 ⟨_,cap,rfl,hia,bb⟩
  refine⟨_,rfl,?_⟩
  intro a hF
  rw[hNe] at hia hF
  obtain⟨gr,more,rfl,_,hge,hbk⟩:=hia.row (by omega)
  replace st:=(st.to bb).push hbk (Nat.le_trans st.bel.size hge) (st.ne hge)
  clear hia bb hbk hge
  refine oA hF 0 rfl rfl fun a hF=>ns<|wq<|oM hF 0 rfl rfl fun a hF=>oV hF (bC (aL hF.o) f8) rfl fun a hF=>oT hF 0 (aD (c:=false) (aK (by omega))) rfl rfl fun a hF=>E.nil<|wp_cond_false hF.o<|wp_skip<|E.norm<|wq<|oM hF 3 rfl rfl fun a hF=>oV hF (fH hF.o aq (mt (i:=0) (by omega) (by omega))) rfl fun a hF=>oV hF (aw hF.o (gb (vs:=[iv ((fiD (1950+yr) (1+mq) 0)),iv (ag (fiD (1950+yr) (1+mq) 0)),iv (smV (fiD (1950+yr) (1+mq) 0)%12),iv (smV (ag (fiD (1950+yr) (1+mq) 0))%12)]) (st.bk 0 rfl) (lY (fiL (1950+yr) (1+mq)) more (by omega)) rfl)) rfl fun a hF=>?_
  refine S.new st hF 0 rfl bw rfl rfl rfl rfl rfl fun g11 w9 a st hF=>nq ?_
  refine oM hF 25 rfl rfl fun a hF=>oV hF (ao hF.o aq ah (fV (n:=8) (by decide) (d:=256) (by decide) (by decide))) rfl fun a hF=>oV hF (ao hF.o aq ah (uy (by omega) hxq)) rfl fun a hF=>oV hF (ao aq hF.o ah (aU (by omega) (by omega))) rfl fun a hF=>oE hF 0 rfl rfl fun a hF=>nq ?_
  refine S.newC st hF cT Dz rfl rfl fun g12 w10 a st hF=>?_
  refine nq<|oL hF st 6 1 bw rfl rfl rfl rfl fun a hF=>oM hF 2 rfl rfl fun a hF=>oL hF st 24 3 aM rfl rfl rfl rfl fun a hF=>oV hF (kU fk (aH (hF.at 3 rfl) (hF.at 32 rfl))) rfl fun a hF=>?_
  obtain⟨W,hW⟩:∃W,wcV (tiB pa pb pc pd (1+xq)) (sk0%2) 0 ((fiD (1950+yr) (1+mq) 0)+(1+xq-1)*63/64-4) 11=W:=⟨_,rfl⟩
  refine E.call hF (rk Gm (Bf (hF.at 3 rfl) hF.q hF.p hF.o)) (tl w [(g12,[iv 0]),(g11,[iv (fiD (1950+yr) (1+mq) 0),iv (ag (fiD (1950+yr) (1+mq) 0)),iv (smV (fiD (1950+yr) (1+mq) 0)%12),iv (smV (ag (fiD (1950+yr) (1+mq) 0))%12)]),(gr,ga (fiL (1950+yr) (1+mq))++more),(g9,[iv pa,iv pb,iv pc,iv pd]),(g7,[iv wa,iv wb,iv wc,iv wd]),(g6,[iv sk0])] 0 g12 (fiD (1950+yr) (1+mq) 0) (ag (fiD (1950+yr) (1+mq) 0)) (smV (fiD (1950+yr) (1+mq) 0)%12) (smV (ag (fiD (1950+yr) (1+mq) 0))%12) (1+xq) pa pb pc pd (sk0%2) _ _ _ st hT hok (by omega) (by omega) (by omega) (by omega) (F9 5 (by simp) rfl (by decide))) rfl rfl rfl rfl ?_
  rintro e w11 ⟨rfl,cz,st⟩
  refine⟨_,rfl,?_⟩
  intro a hF
  rw[hW] at hF
  replace st:St w w11 [(g12,[iv cz]),(g11,[iv (fiD (1950+yr) (1+mq) 0),iv (ag (fiD (1950+yr) (1+mq) 0)),iv (smV (fiD (1950+yr) (1+mq) 0)%12),iv (smV (ag (fiD (1950+yr) (1+mq) 0))%12)]),(gr,ga (fiL (1950+yr) (1+mq))++more),(g9,[iv pa,iv pb,iv pc,iv pd]),(g7,[iv wa,iv wb,iv wc,iv wd]),(g6,[iv sk0])] []:=st
  refine oM hF 0 rfl rfl fun a hF=>oV hF (av (v:= iv W.1) hF.o rfl) rfl fun a hF=>oV hF (av (v:= .bool W.2) hF.p rfl) rfl fun a hF=>oA hF 1 rfl rfl fun a hF=>oA hF 1 rfl rfl fun a hF=>nq<|oV hF (az (hF.at 16 rfl) (f6 (p:=0) rfl)) rfl fun a hF=>oV hF (aw hF.o (bG (v:= iv (fiD (1950+yr) (1+mq) 0)) (st.bk 1 rfl) rfl)) rfl fun a hF=>oM hF 13 rfl rfl fun a hF=>oV hF (ao hF.o aq ah (bT (by omega) (by omega))) rfl fun a hF=>oV hF (ao hF.o aq ah (eQ (by omega) (by omega))) rfl fun a hF=>oV hF (ao hF.o aq ah (me (a:=((1+xq)-1)*63) (b:=64) (by omega) (by omega) (by omega) (by omega))) rfl fun a hF=>oV hF (ao (hF.at 4 rfl) hF.o ah (aU (by omega) (by omega))) rfl fun a hF=>?_
  refine oA hF 0 rfl rfl fun a hF=>?_
  obtain⟨q0,hq0⟩:∃z:Int,(fiD (1950+yr) (1+mq) 0)+((((1+xq)-1)*63)/64)=z:=⟨_,rfl⟩
  rw[hq0] at hW
  replace hF:Fr 86 a [(15,iv q0),(54,iv ((fiD (1950+yr) (1+mq) 0)+((((1+xq)-1)*63)/64))),(53,iv ((((1+xq)-1)*63)/64)),(52,iv (((1+xq)-1)*63)),(51,iv ((1+xq)-1)),(50,iv (1+xq)),(49,iv (fiD (1950+yr) (1+mq) 0)),(48,.pointer (some ⟨g11,0,none⟩)),(14,.bool W.2),(13,iv W.1),(47,.bool W.2),(46,iv W.1),(40,.tuple #[iv W.1,.bool W.2]),(45,.tuple #[iv W.1,.bool W.2]),(44,.func (.func 30) #[] #[.pointer (some ⟨g12,0,none⟩),.pointer (some ⟨g6,0,none⟩)]),(43,.agg #[iv pa,iv pb,iv pc,iv pd]),(42,iv (1+xq)),(41,.agg #[iv (fiD (1950+yr) (1+mq) 0),iv (ag (fiD (1950+yr) (1+mq) 0)),iv (smV (fiD (1950+yr) (1+mq) 0)%12),iv (smV (ag (fiD (1950+yr) (1+mq) 0))%12)]),(12,.pointer (some ⟨g12,0,none⟩)),(1,iv (1+xq)),(39,iv (1+xq)),(38,iv xq),(37,iv (lu%256)),(36,iv lu),(11,.pointer (some ⟨g11,0,none⟩)),(35,.agg #[iv (fiD (1950+yr) (1+mq) 0),iv (ag (fiD (1950+yr) (1+mq) 0)),iv (smV (fiD (1950+yr) (1+mq) 0)%12),iv (smV (ag (fiD (1950+yr) (1+mq) 0))%12)]),(34,.pointer (some ⟨gr,4*0,none⟩)),(33,.slice (some ⟨gr,0,none⟩) N cap),(32,.bool false),(31,iv ((N:Nat):Int)),(30,.slice (some ⟨gr,0,none⟩) N cap),(10,.slice (some ⟨gr,0,none⟩) N cap),(29,.slice (some ⟨gr,0,none⟩) N cap),(28,iv (1+mq)),(27,iv mq),(26,iv (lu%256)),(25,iv lu),(24,iv (1950+yr)),(23,iv yr),(22,iv n),(9,.pointer (some ⟨g9,0,none⟩)),(21,.agg #[iv pa,iv pb,iv pc,iv pd]),(20,.agg #[iv wa,iv wb,iv wc,iv wd]),(19,.bool false),(18,.bool true),(8,.bool false),(7,.pointer (some ⟨g7,0,none⟩)),(6,.pointer (some ⟨g6,0,none⟩)),(0,iv n),(2,iv sk0),(3,.agg #[iv wa,iv wb,iv wc,iv wd])]:=by rw[<-hq0];exact hF
  have hqb:(fiD (1950+yr) (1+mq) 0)<=q0/\q0<=(fiD (1950+yr) (1+mq) 0)+29:=by omega
  refine nq ?_
  refine oC hF rfl fun a hF=>ns<|wq<|oM hF 1 rfl rfl fun a hF=>oV hF (ao hF.o aq ah (bT (by omega) (by omega))) rfl fun a hF=>oA hF 0 rfl rfl fun a hF=>E.nil<|wp_block ?_
  refine E.loop (fun mq a wv=>∃(c:Int) (k:Int),0<=c/\c<=k-q0+4/\q0-4<=k/\k<=q0+7/\wcV (tiB pa pb pc pd (1+xq)) (sk0%2) c k (q0+7-k).toNat =W/\Fr 86 a [(17,iv k),(16,iv c),(15,iv q0),(14,.bool W.2),(13,iv W.1),(1,iv (1+xq)),(9,.pointer (some ⟨g9,0,none⟩)),(6,.pointer (some ⟨g6,0,none⟩))]/\St w wv [(g9,[iv pa,iv pb,iv pc,iv pd]),(g6,[iv sk0])] []/\mq=(q0+7-k:Int).toNat) ((q0+7-(q0-4):Int).toNat) ?_ ?_
  ·exact⟨(0:Int),(q0-4:Int),(by omega),(by omega),(by omega),(by omega),(by rw[show(q0+7-(q0-4)).toNat =11 from by omega];exact hW),Fr.pick (L':=[(17,iv (q0-4)),(16,iv 0),(15,iv q0),(14,.bool W.2),(13,iv W.1),(1,iv (1+xq)),(9,.pointer (some ⟨g9,0,none⟩)),(6,.pointer (some ⟨g6,0,none⟩))]) hF [0,3,4,12,13,23,44,51] rfl,st.pick [3,5] [] rfl rfl (by decide),rfl⟩
  ·rintro mq a w12 ⟨c,k,hc0,hcl,hk0,hk1,hin,hF,st,hm⟩
   refine wp_seq<|wq<|oM hF 0 rfl rfl fun a hF=>oM hF 3 rfl rfl fun a hF=>oV hF (ao hF.o aq ah (aU (by omega) (by omega))) rfl fun a hF=>?_
   by_cases hc13:k<=q0+6
   ·refine oU hF 2 0 (bp (c:=true) (aA hc13)) rfl rfl rfl fun a hF=>E.nil<|wp_cond_true hF.o<|wp_skip<|E.norm<|wp_seq<|wp_block<|wp_seq<|wq<|oM hF 4 rfl rfl fun a hF=>oL hF st 11 0 aM rfl rfl rfl rfl fun a hF=>cX st hF (rgc k31 (aH hF.p hF.o)) (gY k pa pb pc pd (amX k pa pb pc pd) _ (hT.below st.bel) (by first|assumption|constructor<;>omega) (by omega) (by omega) rfl) rfl fun w14 a st hF=>?_
    refine oM hF 12 rfl rfl fun a hF=>?_
    by_cases hc15:(amX k pa pb pc pd)%30+1=1+xq
    ·refine oU hF 1 0 (bn (c:=false) (aK (fun e=>e hc15))) rfl rfl rfl fun a hF=>E.nil<|wp_cond_false hF.o<|wp_skip<|E.norm<|wq ?_
     refine oM hF 10 rfl rfl fun a hF=>oV hF (ao hF.o aq ah (aU (by omega) (by omega))) rfl fun a hF=>oE hF 0 rfl rfl fun a hF=>nq<|oM hF 0 rfl rfl fun a hF=>oV hF (aw (hF.at 19 rfl) (bj (v:= iv sk0) (st.bk 1 rfl) rfl)) rfl fun a hF=>oV hF (ao hF.o aq ah (fV (n:=1) (by decide) (d:=2) (by decide) (by decide))) rfl fun a hF=>?_
     by_cases hc16:sk0%2<c+1
     ·refine oU hF 2 0 (cI (c:=true) (aA (hc16))) rfl rfl rfl fun a hF=>E.nil<|wp_cond_true hF.o<|wp_seq ?_
      have hr:=hin.symm.trans ((kh (q:=(tiB pa pb pc pd (1+xq))) (s:=sk0%2) (c:=c) (b:=k) (e:=q0+7) (by omega)).1 (iP.2 hc15) hc16)
      have hr1:W.1=k:=by rw[hr]
      have hr2:W.2=true:=by rw[hr]
      refine E.seq<|oM hF 18 rfl rfl fun a hF=>oM hF 0 rfl rfl fun a hF=>?_
      refine E.opvg hF (aC (hF.at 21 rfl)) (aJ rfl rfl (Eq.trans hF.o (congrArg Value.bool hr2)) rfl) rfl rfl rfl fun a hF=>?_
      refine E.opvg hF (aC (hF.at 19 rfl)) (aJ rfl rfl (Eq.trans hF.p (congrArg Value.bool hr2)) rfl) rfl rfl rfl fun a hF=>?_
      refine E.opvg hF (ao hF.p hF.o ah (aO (aD (c:=true) (aA (hr1))) (by simp))) (aJ rfl rfl (Eq.trans hF.q (congrArg Value.bool hr2)) rfl) rfl rfl rfl fun a hF=>?_
      refine oV hF (aB (Eq.trans (hF.at 3 rfl) (congrArg Value.bool hr2)) hF.o) rfl fun a hF=>oA hF 0 rfl rfl fun a hF=>nr ?_
      have bel:=st.bel
      refine rt Tryz.results7 hF 0 rfl ?_
      exact⟨rfl,bel⟩
     ·refine oU hF 2 0 (cI (c:=false) (aK (hc16))) rfl rfl rfl fun a hF=>E.nil<|wp_cond_false hF.o<|wp_skip<|E.blk<|E.norm<|E.seq<|oM hF 16 rfl rfl fun a hF=>oV hF (ao hF.o aq ah (aU (by omega) (by omega))) rfl fun a hF=>oE hF 0 rfl rfl fun a hF=>E.nil0<|E.norm ?_
      exact⟨(q0+7-(k+1):Int).toNat,by omega,⟨(c+1:Int),(k+1:Int),(by omega),(by omega),(by omega),(by omega),(((kh (q:=(tiB pa pb pc pd (1+xq))) (s:=sk0%2) (c:=c) (b:=k) (e:=q0+7) (by omega)).2.1 (iP.2 hc15) hc16).symm.trans hin),Fr.pick (L':=[(17,iv (k+1)),(16,iv (c+1)),(15,iv q0),(14,.bool W.2),(13,iv W.1),(1,iv (1+xq)),(9,.pointer (some ⟨g9,0,none⟩)),(6,.pointer (some ⟨g6,0,none⟩))]) hF [0,7,19,20,21,22,23,24] rfl,st.pick [0,1] [] rfl rfl (by decide),rfl⟩⟩
    ·refine oU hF 1 0 (bn (c:=true) (aA (hc15))) rfl rfl rfl fun a hF=>E.nil<|wp_cond_true hF.o<|wp_exit<|E.past<|E.out (id:=1)<|E.norm<|E.seq<|oM hF 9 rfl rfl fun a hF=>oV hF (ao hF.o aq ah (aU (by omega) (by omega))) rfl fun a hF=>oE hF 0 rfl rfl fun a hF=>E.nil0 ?_
     refine E.norm ?_
     exact⟨(q0+7-(k+1):Int).toNat,by omega,⟨(c:Int),(k+1:Int),(by omega),(by omega),(by omega),(by omega),(((kh (q:=(tiB pa pb pc pd (1+xq))) (s:=sk0%2) (c:=c) (b:=k) (e:=q0+7) (by omega)).2.2 (fun e=>hc15 (iP.1 e))).symm.trans hin),Fr.pick (L':=[(17,iv (k+1)),(16,iv c),(15,iv q0),(14,.bool W.2),(13,iv W.1),(1,iv (1+xq)),(9,.pointer (some ⟨g9,0,none⟩)),(6,.pointer (some ⟨g6,0,none⟩))]) hF [0,12,13,14,15,16,17,18] rfl,st.pick [0,1] [] rfl rfl (by decide),rfl⟩⟩
   ·refine oU hF 2 0 (bp (c:=false) (aK hc13)) rfl rfl rfl fun a hF=>E.nil<|wp_cond_false hF.o<|wp_exit<|E.past<|E.past<|E.out (id:=0)<|E.norm<|wp_seq ?_
    have hr:=hin.symm.trans (uM (q:=(tiB pa pb pc pd (1+xq))) (s:=sk0%2) (c:=c) (b:=k) (e:=q0+7) (by omega))
    have hr1:W.1=0:=by rw[hr]
    have hr2:W.2=false:=by rw[hr]
    refine E.seq<|oM hF 7 rfl rfl fun a hF=>oV hF (dc (Eq.trans hF.o (congrArg Value.bool hr2)) (b7 _ true rfl)) rfl fun a hF=>oM hF 0 rfl rfl fun a hF=>og hF (aC (hF.at 11 rfl)) 0 rfl rfl rfl fun a hF=>og hF (ao hF.o aq ah (aO (aD (c:=true) (aA (hr1))) (by simp))) 1 rfl rfl rfl fun a hF=>oV hF (aB hF.q hF.o) rfl fun a hF=>oA hF 0 rfl rfl fun a hF=>nr ?_
    have bel:=st.bel
    refine rt Tryz.results7 hF 0 rfl ?_
    exact⟨rfl,bel⟩
end Go.Proofs.YtddiipaomejcfaaGreatDoor
