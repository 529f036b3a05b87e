import Derived.Test.YtgdpkknapcgcbaaGreatDoorKB41
namespace Go.Proofs.YtgdpkknapcgcbaaGreatDoor
open Go.RowKit
set_option maxRecDepth 100000
set_option linter.unusedVariables false
set_option maxHeartbeats 8000000
theorem fE (v1:Value) (qt:Rat) (k:Nat) (w:World) (hT:a6 w) (h1:Rq w v1 qt) (hl:ag qt k) (hk:k<=100):CV 34 #[v1] w (iv (kI 0 qt)):=pT v1 qt k w hT h1 hl hk
theorem B5 {a b:Rat} (h:a<=b):qc a b<=0:=Int.not_lt.1 fun e=>absurd (kt.1 e) (Rat.not_lt.2 h)
theorem Cu {a b:Rat} (h:b<=a):0<=qc a b:=Int.not_lt.1 fun e=>absurd (t7.1 e) (Rat.not_lt.2 h)
theorem almanacEntry_walk (n wa wb wc wd:Int) (w:World) (hT:a6 w):
 CV 6 #[iv n,.agg #[iv wa,iv wb,iv wc,iv wd]] w (.bool true):=by
 obtain⟨pa,hpa⟩:∃z:Int,gA 60 120 wa wb=z:=⟨_,rfl⟩
 obtain⟨pb,hpb⟩:∃z:Int,gB wb=z:=⟨_,rfl⟩
 obtain⟨pc,hpc⟩:∃z:Int,gA 180 360 wc wd=z:=⟨_,rfl⟩
 obtain⟨pd,hpd⟩:∃z:Int,gB wd=z:=⟨_,rfl⟩
 have hok:co pa pb pc pd:=by rw[<-hpa,<-hpb,<-hpc,<-hpd];exact lY wa wb wc wd
 have hp1:=hok.b0
 have hp2:=hok.b1
 have hp3:=hok.a0
 have hp4:=hok.a1
 have hp5:=hok.d0
 have hp6:=hok.d1
 have hp7:=hok.c0
 have hp8:=hok.c1
 obtain⟨ny,hny⟩:∃z:Int,inD n=z:=⟨_,rfl⟩
 have hin0:=qJ n
 rw[hny] at hin0
 obtain⟨tq,htq⟩:∃z:Rat,aU (cr ny pa pb pc pd)=z:=⟨_,rfl⟩
 obtain⟨uq,huq⟩:∃z:Rat,aU (cr (ny+1) pa pb pc pd)=z:=⟨_,rfl⟩
 have hgt:∀c,Gr c tq:=fun c=>by rw[<-htq];exact i6 _
 have hgu:∀c,Gr c uq:=fun c=>by rw[<-huq];exact i6 _
 have hnx:=l9 hok ny
 rw[htq,huq] at hnx
 have hbt:=qm hok (n:=ny) (by omega) (by omega)
 rw[htq] at hbt
 obtain⟨NA,hNA⟩:∃z:Nat,(prA tq uq).length =z:=⟨_,rfl⟩
 have hNp:=oG tq uq
 rw[hNA] at hNp
 have hNb:=oJ hnx.1 hnx.2
 rw[hNA] at hNb
 refine gs2 (nt:=101) Tryz.func6 rfl rfl rfl fun a st hF=>wq<|bx st hF 1 rfl rfl fun g3 w1 a st hF=>?_
 refine oC hF rfl fun a hF=>ns<|wq<|cX st hF (rgc k15 ic) (dI _ (hT.below st.bel)) rfl fun w2 a st hF=>oV hF (d9 hF.o (cZ _ false rfl)) rfl fun a hF=>E.nil<|wp_cond_false hF.o<|wp_skip<|E.norm ?_
 refine E.mid (I:=fun a wv=>∃(g5 gp:Nat) (cp:List Value) (b1t:Bool) (a1t:Option Addr) (n1t c1t:Nat) (d1t:Option Addr) (m1t e1t:Nat) (b2t:Bool) (a2t:Option Addr) (n2t c2t:Nat) (d2t:Option Addr) (m2t e2t:Nat) (b3t:Bool) (a3t:Option Addr) (n3t c3t:Nat) (d3t:Option Addr) (m3t e3t:Nat) (capt:Nat),Fr 101 a [(5,.pointer (some ⟨g5,0,none⟩)),(6,iv 0),(4,.bool false)]/\St w wv [(g5,[iv ny,iv (ny%7),.bool b1t,.slice a1t n1t c1t,.slice d1t m1t e1t,.bool b2t,.slice a2t n2t c2t,.slice d2t m2t e2t,.bool b3t,.slice a3t n3t c3t,.slice d3t m3t e3t,.slice (some ⟨gp,0,none⟩) NA capt]),(gp,cp)] [fun w=>PEl w cp (prA tq uq),fun w=>Rl (uq) (3) w (.agg #[.bool b3t,.slice a3t n3t c3t,.slice d3t m3t e3t]),fun w=>Rl (aU (eQ ny pa pb pc pd)) (3) w (.agg #[.bool b2t,.slice a2t n2t c2t,.slice d2t m2t e2t]),fun w=>Rl (tq) (3) w (.agg #[.bool b1t,.slice a1t n1t c1t,.slice d1t m1t e1t])]) ?_ ?_
 ·refine E.drawnL 9 7 aF hF [14,15,16,17,18,13,19,20,5] [(fun _ v=>v= iv n),(fun _ v=>v= iv ny),(fun _ v=>v= .agg #[iv wa,iv wb,iv wc,iv wd]),(fun _ v=>v= .agg #[iv pa,iv pb,iv pc,iv pd]),(DyT w2.heap.size ny (ny%7) tq (aU (eQ ny pa pb pc pd)) uq NA (prA tq uq)),(DyT w2.heap.size ny (ny%7) tq (aU (eQ ny pa pb pc pd)) uq NA (prA tq uq)),(fun w v=>DyV w w2.heap.size v ny (ny%7) tq (aU (eQ ny pa pb pc pd)) uq NA (prA tq uq)),(fun _ v=>v= iv 0),(fun w v=>∃g,v= .pointer (some ⟨g,0,none⟩)/\w2.heap.size<=g/\Blk w g [iv 0,iv 0,.bool false,.slice none 0 0,.slice none 0 0,.bool false,.slice none 0 0,.slice none 0 0,.bool false,.slice none 0 0,.slice none 0 0,.slice none 0 0])] [8] (by decide+kernel) rfl rfl ⟨(Mb.eq _),(Mb.eq _),(Mb.eq _),(Mb.eq _),DyT.mb,DyT.mb,(fun _ _ _ h hb=>h.below hb),(Mb.eq _),(fun _ _ _ ⟨g,e,l,o⟩ hb=>⟨g,e,l,o.below hb⟩),trivial⟩ ⟨fun _ _ ⟨g,e,_,o⟩=>⟨g,e,o.lt⟩,trivial⟩ rfl rfl ⟨?_,?_,?_,?_,?_,?_,?_,?_,?_,trivial⟩ ?_ ?_
  ·exact qM 4 rfl rfl rfl
  ·intro a' w' hF' hb hd
   have e14:=tE hd 0 rfl
   exact uM (rk CL (aB e14)) (qC _ hny) (fun _=>rfl) rfl rfl
  ·exact qL st 3 0 qP rfl rfl rfl rfl rfl
  ·intro a' w' hF' hb hd
   have e16:=tE hd 0 rfl
   exact uM (rk Dm (aB e16)) (mY _ hpa hpb hpc hpd) (fun _=>rfl) rfl rfl
  ·intro a' w' hF' hb hd
   have e15:=tE hd 0 rfl
   have e17:=tE hd 1 rfl
   exact dc0 (rgc k18 (aA e15 e17)) (tG (mT ny pa pb pc pd _ _ NA _ (hT.below (a5 st.bel hb)) (by first|assumption|constructor<;>omega) (by omega) (by omega) htq huq hNA) hb.size) rfl rfl
  ·intro a' w' hF' hb hd
   obtain⟨v0,e0,h0⟩:=tH hd 0 rfl
   exact dv0 (aI e0) h0 rfl rfl
  ·intro a' w' hF' hb hd
   obtain⟨_,e0,v0,rfl,h0⟩:=tH hd 0 rfl
   exact dv0 (aC (v:=v0) e0 rfl) h0 rfl rfl
  ·intro a' w' hF' hb hd
   obtain⟨_,e0,v0,rfl,h0⟩:=tH hd 0 rfl
   exact dv0 (aC (v:= iv 0) e0 rfl) rfl rfl rfl
  ·intro a' w' hF' hb hd
   exact yd bz hb.size rfl
  ·intro a w3 hF bb hall hne
   have s0:=st
   replace st:=st.to bb
   obtain⟨_,ep,g5,rfl,ge,og⟩:=sS hall 8 5 rfl rfl
   replace st:=st.push og (Nat.le_trans s0.bel.size ge) (s0.ne ge)
   obtain⟨_,ed,b1t,a1t,n1t,c1t,d1t,m1t,e1t,b2t,a2t,n2t,c2t,d2t,m2t,e2t,b3t,a3t,n3t,c3t,d3t,m3t,e3t,adt,capt,rfl,hr1t,hr2t,hr3t,hpt⟩:=sS hall 6 19 rfl rfl
   obtain⟨gp,cp,rfl,_,hge,hbk,hel⟩:=hpt.row (by omega)
   have hgp:gp≠g5:=by obtain⟨p0,l0,e1,e2⟩:=kg tq uq;exact jk hbk (e1▸hel) og (by rw[e2];decide)
   replace st:=((((st.push hbk (Nat.le_trans s0.bel.size hge) (fB (fun(e:g5=gp)=>hgp e.symm) (s0.ne hge))).add hr1t (Rl.cl _)).add hr2t (Rl.cl _)).add hr3t (Rl.cl _)).add hel (PEl.cl _)
   replace hF:=(hF.add ep).add ed
   have el:=sSe hall 7 20 rfl rfl
   replace hF:=hF.add el
   clear hall hne bb s0 og hbk hge hr1t hr2t hr3t hel hpt hgp ge
   refine S.stoIU st hF 1 rfl rfl (bN PEl.clU (bN Rl.clU (bN Rl.clU (bN Rl.clU ib)))) hF.q hF.p bz rfl rfl rfl fun w4 a st hF=>?_
   refine oA hF 0 rfl rfl fun a hF=>E.nil0<|E.norm ?_
   exact⟨_,_,_,_,_,_,_,_,_,_,_,_,_,_,_,_,_,_,_,_,_,_,_,_,_,Fr.pick (L':=[(5,.pointer (some ⟨g5,0,none⟩)),(6,iv 0),(4,.bool false)]) hF [3,0,6] rfl,st.pick [1,0] [0,1,2,3] rfl rfl (by decide)⟩
  ·intro a w5 hF bb hall hne
   have s0:=st
   replace st:=st.to bb
   obtain⟨_,ep,g5,rfl,ge,og⟩:=sS hall 8 5 rfl rfl
   replace st:=st.push og (Nat.le_trans s0.bel.size ge) (s0.ne ge)
   obtain⟨_,ed,b1t,a1t,n1t,c1t,d1t,m1t,e1t,b2t,a2t,n2t,c2t,d2t,m2t,e2t,b3t,a3t,n3t,c3t,d3t,m3t,e3t,adt,capt,rfl,hr1t,hr2t,hr3t,hpt⟩:=sS hall 6 19 rfl rfl
   obtain⟨gp,cp,rfl,_,hge,hbk,hel⟩:=hpt.row (by omega)
   have hgp:gp≠g5:=by obtain⟨p0,l0,e1,e2⟩:=kg tq uq;exact jk hbk (e1▸hel) og (by rw[e2];decide)
   replace st:=((((st.push hbk (Nat.le_trans s0.bel.size hge) (fB (fun(e:g5=gp)=>hgp e.symm) (s0.ne hge))).add hr1t (Rl.cl _)).add hr2t (Rl.cl _)).add hr3t (Rl.cl _)).add hel (PEl.cl _)
   replace hF:=(hF.add ep).add ed
   obtain⟨_,el,v0,rfl,_⟩:=sS hall 5 13 rfl rfl
   replace hF:=hF.add el
   clear hall hne bb s0 og hbk hge hr1t hr2t hr3t hel hpt hgp ge
   refine S.stoIU st hF 1 rfl rfl (bN PEl.clU (bN Rl.clU (bN Rl.clU (bN Rl.clU ib)))) hF.q hF.p bz rfl rfl rfl fun w6 a st hF=>?_
   refine oV hF (aC (v:= iv 0) hF.o rfl) rfl fun a hF=>oA hF 0 rfl rfl fun a hF=>E.nil0<|E.norm ?_
   exact⟨_,_,_,_,_,_,_,_,_,_,_,_,_,_,_,_,_,_,_,_,_,_,_,_,_,Fr.pick (L':=[(5,.pointer (some ⟨g5,0,none⟩)),(6,iv 0),(4,.bool false)]) hF [4,0,7] rfl,st.pick [1,0] [0,1,2,3] rfl rfl (by decide)⟩
 ·rintro a w7 ⟨g5,gp,cp,b1t,a1t,n1t,c1t,d1t,m1t,e1t,b2t,a2t,n2t,c2t,d2t,m2t,e2t,b3t,a3t,n3t,c3t,d3t,m3t,e3t,capt,hF,st⟩
  refine wp_seq<|wq<|oM hF 1 rfl rfl fun a hF=>oT hF 0 (cQ (c:=false) (aK (by decide))) rfl rfl fun a hF=>E.nil<|wp_cond_false hF.o<|wp_skip<|E.norm<|wq<|oL hF st 2 0 bz rfl rfl rfl rfl fun a hF=>?_
  by_cases hc9:kI 0 uq=kI 0 tq
  ·refine E.call hF (rgc k25 (aA hF.o ah)) (d8 _ _ _ _ _ _ _ _ _ _ _ _ _ _ _ _ _ _ _ _ _ _ _ _ _ _ _ _ 0 0 ([]:List Pt) _ (st.bk 1 rfl) (st.f 0 rfl) hNA (by omega) (by rw[uy];unfold prS;rw[if_pos hc9]) rfl) rfl rfl rfl rfl ?_
   rintro e w10 ⟨adl11,capl11,rfl,hpl,bb⟩
   refine⟨_,rfl,?_⟩
   intro a hF
   replace st:=st.to bb
   clear bb hpl
   refine oA hF 0 rfl rfl fun a hF=>ns ?_
   refine E.rg 8 aF hF [25,26,27,28,29,30,8,9] [_,_,_,_,_,_,.ex (iv (kI 0 tq)),.ex (iv (kI 0 uq))] (by decide+kernel) rfl rfl rfl ⟨rfd 5 (fun _=>kB (p:=2) rfl) rfl,rld rfl fun _ hb=>(bU (vs:=[.bool b1t,.slice a1t n1t c1t,.slice d1t m1t e1t]) ((st.bk 0 rfl).below hb) rfl rfl),ck st k34 rfl fun _ s=>bv (fE _ (tq) 3 _ (hT.below s.bel) (s.f 3 rfl).1 (s.f 3 rfl).2 (by omega)),rfd 5 (fun _=>j5 (p:=8) rfl) rfl,rld rfl fun _ hb=>(bU (vs:=[.bool b3t,.slice a3t n3t c3t,.slice d3t m3t e3t]) ((st.bk 0 rfl).below hb) rfl rfl),ck st k34 rfl fun _ s=>bv (fE _ (uq) 3 _ (hT.below s.bel) (s.f 1 rfl).1 (s.f 1 rfl).2 (by omega)),(by intro a' w' hF' hb hd;have e27:=tE hd 0 rfl;have hks26533:=kh (c:=0) (by decide) (by decide) (tq);exact dv0 (bf e27) rfl rfl rfl),(by intro a' w' hF' hb hd;have e30:=tE hd 0 rfl;have hks67270:=kh (c:=0) (by decide) (by decide) (uq);exact dv0 (bf e30) rfl rfl rfl),trivial⟩ ?_
   intro a w12 hF bb hall
   replace st:=st.to bb
   replace hF:=rE hall hF 6 rfl rfl
   replace hF:=rE hall hF 7 rfl rfl
   clear hall bb
   refine ns<|wq<|oM hF 1 rfl rfl fun a hF=>oM hF 1 rfl rfl fun a hF=>oU hF 1 0 (aJ (c:=true) (aD (hc9.symm))) rfl rfl rfl fun a hF=>E.nil<|wp_cond_true hF.o<|wq ?_
   refine oM hF 5 rfl rfl fun a hF=>oV hF (aR (aB hF.o) cf) rfl fun a hF=>oT hF 0 (aJ (c:=true) (aD (by decide))) rfl rfl fun a hF=>oE hF 0 rfl rfl fun a hF=>nr ?_
   have bel:=st.bel
   refine rt Tryz.results6 hF 0 rfl ?_
   exact⟨rfl,bel⟩
  ·refine E.call hF (rgc k25 (aA hF.o ah)) (d8 _ _ _ _ _ _ _ _ _ _ _ _ _ _ _ _ _ _ _ _ _ _ _ _ _ _ _ _ 0 1 ([pt4 0 tq]:List Pt) _ (st.bk 1 rfl) (st.f 0 rfl) hNA (by omega) (by rw[uy];unfold prS;rw[if_neg hc9]) rfl) rfl rfl rfl rfl ?_
   rintro e w13 ⟨adl14,capl14,rfl,hpl,bb⟩
   refine⟨_,rfl,?_⟩
   intro a hF
   obtain⟨gl14,cl14,rfl,_,hge,hbk,hll14⟩:=hpl.row (by show 0<1;omega)
   replace st:=((st.to bb).push hbk (Nat.le_trans st.bel.size hge) (st.ne hge)).add hll14 (PEl.cl _)
   clear hpl hbk hge hll14 bb
   refine oA hF 0 rfl rfl fun a hF=>ns ?_
   refine E.rg 8 aF hF [25,26,27,28,29,30,8,9] [_,_,_,_,_,_,.ex (iv (kI 0 tq)),.ex (iv (kI 0 uq))] (by decide+kernel) rfl rfl rfl ⟨rfd 5 (fun _=>kB (p:=2) rfl) rfl,rld rfl fun _ hb=>(bU (vs:=[.bool b1t,.slice a1t n1t c1t,.slice d1t m1t e1t]) ((st.bk 1 rfl).below hb) rfl rfl),ck st k34 rfl fun _ s=>bv (fE _ (tq) 3 _ (hT.below s.bel) (s.f 4 rfl).1 (s.f 4 rfl).2 (by omega)),rfd 5 (fun _=>j5 (p:=8) rfl) rfl,rld rfl fun _ hb=>(bU (vs:=[.bool b3t,.slice a3t n3t c3t,.slice d3t m3t e3t]) ((st.bk 1 rfl).below hb) rfl rfl),ck st k34 rfl fun _ s=>bv (fE _ (uq) 3 _ (hT.below s.bel) (s.f 2 rfl).1 (s.f 2 rfl).2 (by omega)),(by intro a' w' hF' hb hd;have e27:=tE hd 0 rfl;have hks26533:=kh (c:=0) (by decide) (by decide) (tq);exact dv0 (bf e27) rfl rfl rfl),(by intro a' w' hF' hb hd;have e30:=tE hd 0 rfl;have hks67270:=kh (c:=0) (by decide) (by decide) (uq);exact dv0 (bf e30) rfl rfl rfl),trivial⟩ ?_
   intro a w15 hF bb hall
   replace st:=st.to bb
   replace hF:=rE hall hF 6 rfl rfl
   replace hF:=rE hall hF 7 rfl rfl
   clear hall bb
   refine ns<|wq<|oM hF 1 rfl rfl fun a hF=>oM hF 1 rfl rfl fun a hF=>oU hF 1 0 (aJ (c:=false) (aK (fun e=>hc9 e.symm))) rfl rfl rfl fun a hF=>E.nil<|wp_cond_false hF.o<|wp_skip<|E.norm<|wp_seq<|wp_seq ?_
   obtain⟨b1x,a1x,n1x,c1x,d1x,m1x,e1x,b2x,a2x,n2x,c2x,d2x,m2x,e2x,hcx,hlx,hrx⟩:=((st.f 0 rfl)).at4 (i:=0) (c:=0) (f:=tq) rfl
   replace st:=(st.add hlx (Rl.cl _)).add hrx (Rl.cl _)
   clear hlx hrx
   obtain⟨b1y,a1y,n1y,c1y,d1y,m1y,e1y,b2y,a2y,n2y,c2y,d2y,m2y,e2y,hcy,hly,hry⟩:=((st.f 3 rfl)).at4 (i:=(NA-1)) (c:=0) (f:=tq) (by rw[<-hNA];exact Ag hc9)
   replace st:=(st.add hly (Rl.cl _)).add hry (Rl.cl _)
   clear hly hry
   have hsg:=Cc (hgt 0) (hgu 0) hnx.1 hnx.2 hc9
   refine E.seq<|oM hF 5 rfl rfl fun a hF=>oV hF (aR (aB hF.o) cf) rfl fun a hF=>oT hF 0 (cQ (c:=false) (aK (by decide))) rfl rfl fun a hF=>oM hF 0 rfl rfl fun a hF=>og hF (aI (hF.at 9 rfl)) 0 rfl rfl rfl fun a hF=>og hF (dY hF.o ah (fV (i:=0) (by omega) (by omega))) 1 rfl rfl rfl fun a hF=>og hF (ao hF.o (gO (p:=(8*0+1)) rfl)) 2 rfl rfl rfl fun a hF=>og hF (aq hF.o (cS (v:= iv (kI 0 tq)) (st.bk 0 rfl) (lO (k:=1) hcx (by decide) rfl))) 3 rfl rfl rfl fun a hF=>og hF (aI (hF.at 12 rfl)) 4 rfl rfl rfl fun a hF=>og hF (ar hF.p hF.o ab (aM (cQ (c:=false) (by simp)) (by simp))) 5 rfl rfl rfl fun a hF=>oV hF (aZ (hF.at 6 rfl) hF.o) rfl fun a hF=>oM hF 0 rfl rfl fun a hF=>og hF (ao (hF.at 22 rfl) (gN (p:=11) rfl)) 0 rfl rfl rfl fun a hF=>og hF (aq hF.o (gH (v:= .slice (some ⟨gp,0,none⟩) NA capt) (st.bk 1 rfl) rfl)) 1 rfl rfl rfl fun a hF=>?_
   refine og hF (ao (hF.at 24 rfl) (gN (p:=11) rfl)) 2 rfl rfl rfl fun a hF=>og hF (aq hF.o (gH (v:= .slice (some ⟨gp,0,none⟩) NA capt) (st.bk 1 rfl) rfl)) 3 rfl rfl rfl fun a hF=>og hF (aR (aB hF.o) cf) 4 rfl rfl rfl fun a hF=>og hF (ar hF.o ah ab (de (by omega) (by omega))) 5 rfl rfl rfl fun a hF=>og hF (dY (hF.at 4 rfl) hF.o (fV (i:=(NA-1)) (by omega) (by omega))) 6 rfl rfl rfl fun a hF=>og hF (ao hF.o (qR (p:=(8*(NA-1)+0)) rfl)) 7 rfl rfl rfl fun a hF=>og hF (aq hF.o (cS (v:= iv 0) (st.bk 2 rfl) (lO (k:=0) hcy (by decide) rfl))) 8 rfl rfl rfl fun a hF=>og hF (ar hF.o ah ab (aM (cQ (c:=false) (aK (by decide))) (by simp))) 9 rfl rfl rfl fun a hF=>oV hF (aZ (hF.at 10 rfl) hF.o) rfl fun a hF=>E.nil<|wp_cond_false hF.o<|wp_skip ?_
   refine E.norm<|wq<|oM hF 28 rfl rfl fun a hF=>oV hF (dY hF.o ah (fV (i:=0) (by omega) (by omega))) rfl fun a hF=>oV hF (aq hF.o (pv (vs:=[iv 0,iv (kI 0 tq),.bool b1x,.slice a1x n1x c1x,.slice d1x m1x e1x,.bool b2x,.slice a2x n2x c2x,.slice d2x m2x e2x]) (st.bk 0 rfl) hcx rfl)) rfl fun a hF=>S.new st hF 0 rfl eE rfl rfl rfl rfl rfl fun g10 w16 a st hF=>nq<|oV hF (ao hF.o (iW (p:=2) rfl)) rfl fun a hF=>oV hF (aq hF.o (bU (vs:=[.bool b1x,.slice a1x n1x c1x,.slice d1x m1x e1x]) (st.bk 0 rfl) rfl rfl)) rfl fun a hF=>cX st hF (rgc k34 (aB hF.o)) (fE _ _ 2 _ (hT.below st.bel) (st.f 3 rfl).1 (st.f 3 rfl).2 (by omega)) rfl fun w17 a st hF=>?_
   have hks27775:=kh (c:=0) (by decide) (by decide) (cC 0 tq)
   refine oM hF 34 rfl rfl fun a hF=>oU hF 1 0 (aJ (c:=true) (aD (nW (by decide) (by decide) tq))) rfl rfl rfl fun a hF=>oM hF 0 rfl rfl fun a hF=>og hF (ao (hF.at 6 rfl) (fp (p:=5) rfl)) 0 rfl rfl rfl fun a hF=>og hF (aq hF.o (bU (vs:=[.bool b2x,.slice a2x n2x c2x,.slice d2x m2x e2x]) (st.bk 0 rfl) rfl rfl)) 1 rfl rfl rfl fun a hF=>?_
   refine S.callxg st hF (az rfl rfl hF.q rfl) (rgc k34 (aB hF.o)) (fE _ _ 2 _ (hT.below st.bel) (st.f 2 rfl).1 (st.f 2 rfl).2 (by omega)) rfl rfl rfl fun w18 a st hF=>?_
   have hks36803:=kh (c:=0) (by decide) (by decide) (bZ 0 tq)
   refine og hF (aI (hF.at 39 rfl)) 3 rfl rfl rfl fun a hF=>og hF (ar hF.p hF.o ab (aM (aJ (c:=true) (aD (hsg.2.2))) (by simp))) 4 rfl rfl rfl fun a hF=>oV hF (aO (hF.at 5 rfl) hF.o) rfl fun a hF=>oM hF 0 rfl rfl fun a hF=>og hF (ao (hF.at 13 rfl) (fp (p:=5) rfl)) 0 rfl rfl rfl fun a hF=>og hF (aq hF.o (bU (vs:=[.bool b2x,.slice a2x n2x c2x,.slice d2x m2x e2x]) (st.bk 0 rfl) rfl rfl)) 1 rfl rfl rfl fun a hF=>og hF (ao (hF.at 52 rfl) (j5 (p:=8) rfl)) 2 rfl rfl rfl fun a hF=>og hF (aq hF.o (bU (vs:=[.bool b3t,.slice a3t n3t c3t,.slice d3t m3t e3t]) (st.bk 2 rfl) rfl rfl)) 3 rfl rfl rfl fun a hF=>?_
   refine S.callxg st hF (az rfl rfl (hF.at 4 rfl) rfl) (rgc k31 (aA hF.q hF.o)) (fb _ _ _ (uq) (max 2 3) _ (st.f 2 rfl).1 (st.f 6 rfl).1 ((st.f 2 rfl).2.up _ (by omega)) ((st.f 6 rfl).2.up _ (by omega)) (by omega)) rfl rfl rfl fun w19 a st hF=>?_
   refine og hF (ar hF.o ah ab (aM (bA (c:=true) (aD (B5 hsg.2.1))) (by simp))) 5 rfl rfl rfl fun a hF=>oV hF (aO (hF.at 6 rfl) hF.o) rfl fun a hF=>oM hF 0 rfl rfl fun a hF=>og hF (ao (hF.at 21 rfl) (iW (p:=2) rfl)) 0 rfl rfl rfl fun a hF=>og hF (aq hF.o (bU (vs:=[.bool b1x,.slice a1x n1x c1x,.slice d1x m1x e1x]) (st.bk 0 rfl) rfl rfl)) 1 rfl rfl rfl fun a hF=>og hF (ao (hF.at 60 rfl) (kB (p:=2) rfl)) 2 rfl rfl rfl fun a hF=>og hF (aq hF.o (bU (vs:=[.bool b1t,.slice a1t n1t c1t,.slice d1t m1t e1t]) (st.bk 2 rfl) rfl rfl)) 3 rfl rfl rfl fun a hF=>?_
   refine S.callxg st hF (az rfl rfl (hF.at 4 rfl) rfl) (rgc k31 (aA hF.q hF.o)) (fb _ _ _ (tq) (max 2 3) _ (st.f 3 rfl).1 (st.f 8 rfl).1 ((st.f 3 rfl).2.up _ (by omega)) ((st.f 8 rfl).2.up _ (by omega)) (by omega)) rfl rfl rfl fun w20 a st hF=>?_
   refine og hF (ar hF.o ah ab (aM (fM (c:=true) (aD (Cu (oK 0 tq)))) (by simp))) 5 rfl rfl rfl fun a hF=>oV hF (aO (hF.at 6 rfl) hF.o) rfl fun a hF=>oM hF 0 rfl rfl fun a hF=>og hF (ao (hF.at 29 rfl) (fp (p:=5) rfl)) 0 rfl rfl rfl fun a hF=>og hF (aq hF.o (bU (vs:=[.bool b2x,.slice a2x n2x c2x,.slice d2x m2x e2x]) (st.bk 0 rfl) rfl rfl)) 1 rfl rfl rfl fun a hF=>og hF (ao (hF.at 31 rfl) (iW (p:=2) rfl)) 2 rfl rfl rfl fun a hF=>og hF (aq hF.o (bU (vs:=[.bool b1x,.slice a1x n1x c1x,.slice d1x m1x e1x]) (st.bk 0 rfl) rfl rfl)) 3 rfl rfl rfl fun a hF=>?_
   refine S.ckg st hF (az rfl rfl (hF.at 4 rfl) rfl) (rgc k35 (aA hF.q hF.o)) (er (st.f 2 rfl) (st.f 3 rfl)) Rl.cl rfl rfl rfl fun vv22 w21 a st hF=>?_
   obtain⟨r24,rfl⟩:=Rq.fo (st.f 0 rfl).1
   refine S.ckg st hF (az rfl rfl (hF.at 5 rfl) rfl) (rgc k36 (aA ah ah)) cG Rl.cl rfl rfl rfl fun vv26 w25 a st hF=>?_
   obtain⟨r28,rfl⟩:=Rq.fo (st.f 0 rfl).1
   refine S.callxg st hF (az rfl rfl (hF.at 6 rfl) rfl) (rgc k31 (aA hF.p hF.o)) (fb _ _ _ _ (max 5 2) _ (st.f 1 rfl).1 (st.f 0 rfl).1 ((st.f 1 rfl).2.up _ (by omega)) ((st.f 0 rfl).2.up _ (by omega)) (by omega)) rfl rfl rfl fun w29 a st hF=>?_
   refine og hF (ar hF.o ah ab (aM (cw (c:=true) (aD (t7.2 (vV 0 tq)))) (by simp))) 7 rfl rfl rfl fun a hF=>oV hF (aO (hF.at 8 rfl) hF.o) rfl fun a hF=>oE hF 0 rfl rfl fun a hF=>nr ?_
   have bel:=st.bel
   refine rt Tryz.results6 hF 0 rfl ?_
   exact⟨rfl,bel⟩
end Go.Proofs.YtgdpkknapcgcbaaGreatDoor
