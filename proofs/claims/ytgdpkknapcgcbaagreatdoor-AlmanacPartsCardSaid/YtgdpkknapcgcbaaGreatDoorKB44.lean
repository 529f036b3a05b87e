import Derived.Test.YtgdpkknapcgcbaaGreatDoorKB41
namespace Go.Proofs.YtgdpkknapcgcbaaGreatDoor
open Go.RowKit
set_option maxRecDepth 100000
set_option linter.unusedVariables false
set_option maxHeartbeats 8000000
theorem almanacParts_walk (n k0 wa wb wc wd:Int) (w:World) (hT:a6 w):
 CV 4 #[iv n,iv k0,.agg #[iv wa,iv wb,iv wc,iv wd]] w (.bool true):=by
 obtain⟨pa,hpa⟩:∃z:Int,gA 60 120 wa wb=z:=⟨_,rfl⟩
 obtain⟨pb,hpb⟩:∃z:Int,gB wb=z:=⟨_,rfl⟩
 obtain⟨pc,hpc⟩:∃z:Int,gA 180 360 wc wd=z:=⟨_,rfl⟩
 obtain⟨pd,hpd⟩:∃z:Int,gB wd=z:=⟨_,rfl⟩
 have hok:co pa pb pc pd:=by rw[<-hpa,<-hpb,<-hpc,<-hpd];exact lY wa wb wc wd
 have hp1:=hok.b0
 have hp2:=hok.b1
 have hp3:=hok.a0
 have hp4:=hok.a1
 have hp5:=hok.d0
 have hp6:=hok.d1
 have hp7:=hok.c0
 have hp8:=hok.c1
 obtain⟨ny,hny⟩:∃z:Int,inD n=z:=⟨_,rfl⟩
 have hin0:=qJ n
 rw[hny] at hin0
 obtain⟨tq,htq⟩:∃z:Rat,aU (cr ny pa pb pc pd)=z:=⟨_,rfl⟩
 obtain⟨uq,huq⟩:∃z:Rat,aU (cr (ny+1) pa pb pc pd)=z:=⟨_,rfl⟩
 have hgt:∀c,Gr c tq:=fun c=>by rw[<-htq];exact i6 _
 have hgu:∀c,Gr c uq:=fun c=>by rw[<-huq];exact i6 _
 have hnx:=l9 hok ny
 rw[htq,huq] at hnx
 have hbt:=qm hok (n:=ny) (by omega) (by omega)
 rw[htq] at hbt
 obtain⟨NA,hNA⟩:∃z:Nat,(prA tq uq).length =z:=⟨_,rfl⟩
 have hNp:=oG tq uq
 rw[hNA] at hNp
 have hNb:=oJ hnx.1 hnx.2
 rw[hNA] at hNb
 obtain⟨c,hkc⟩:∃z:Int,1+(k0%256)%4=z:=⟨_,rfl⟩
 have hc1:1<=c:=by omega
 have hc0:0<=c:=by omega
 have hc4:c<=4:=by omega
 obtain⟨P,hP⟩:∃z:Nat,paN c tq uq=z:=⟨_,rfl⟩
 have hPm:=(gX hc0 hc4 hnx.1 hnx.2).2
 rw[hP] at hPm
 have hkn:=j2 c
 have hkp:kP c=kN c:=if_pos ⟨hc0,hc4⟩
 rw[<-hkp] at hkn
 refine gs3 (nt:=112) Tryz.func4 rfl rfl rfl fun a st hF=>wq<|bx st hF 2 rfl rfl fun g5 w1 a st hF=>?_
 refine oC hF rfl fun a hF=>ns<|wq<|cX st hF (rgc k15 ic) (dI _ (hT.below st.bel)) rfl fun w2 a st hF=>oV hF (d9 hF.o (cZ _ false rfl)) rfl fun a hF=>E.nil<|wp_cond_false hF.o<|wp_skip<|E.norm<|wq<|oM hF 5 rfl rfl fun a hF=>oV hF (ar hF.o ah ab (D4 (n:=8) (by decide) (d:=256) (by decide) (by decide))) rfl fun a hF=>oV hF (ar hF.o ah ab (ir (a:=k0%256) (b:=4) (by omega) (by omega))) rfl fun a hF=>oV hF (ar ah hF.o ab (bl (by omega) (by omega))) rfl fun a hF=>oE hF 0 rfl rfl fun a hF=>?_
 replace hF:Fr 112 a [(1,iv c),(20,iv (1+((k0%256)%4))),(19,iv ((k0%256)%4)),(18,iv (k0%256)),(17,iv k0),(16,.bool false),(15,.bool true),(6,.bool false),(5,.pointer (some ⟨g5,0,none⟩)),(0,iv n),(2,.agg #[iv wa,iv wb,iv wc,iv wd])]:=by rw[<-hkc];exact hF
 refine E.nil ?_
 refine E.mid (I:=fun a wv=>∃(g7 gp:Nat) (cp:List Value) (b1t:Bool) (a1t:Option Addr) (n1t c1t:Nat) (d1t:Option Addr) (m1t e1t:Nat) (b2t:Bool) (a2t:Option Addr) (n2t c2t:Nat) (d2t:Option Addr) (m2t e2t:Nat) (b3t:Bool) (a3t:Option Addr) (n3t c3t:Nat) (d3t:Option Addr) (m3t e3t:Nat) (capt:Nat),Fr 112 a [(7,.pointer (some ⟨g7,0,none⟩)),(8,iv 0),(1,iv c),(6,.bool false)]/\St w wv [(g7,[iv ny,iv (ny%7),.bool b1t,.slice a1t n1t c1t,.slice d1t m1t e1t,.bool b2t,.slice a2t n2t c2t,.slice d2t m2t e2t,.bool b3t,.slice a3t n3t c3t,.slice d3t m3t e3t,.slice (some ⟨gp,0,none⟩) NA capt]),(gp,cp)] [fun w=>PEl w cp (prA tq uq),fun w=>Rl (uq) (3) w (.agg #[.bool b3t,.slice a3t n3t c3t,.slice d3t m3t e3t]),fun w=>Rl (aU (eQ ny pa pb pc pd)) (3) w (.agg #[.bool b2t,.slice a2t n2t c2t,.slice d2t m2t e2t]),fun w=>Rl (tq) (3) w (.agg #[.bool b1t,.slice a1t n1t c1t,.slice d1t m1t e1t])]) ?_ ?_
 ·refine E.drawnL 9 7 aF hF [22,23,24,25,26,21,27,28,7] [(fun _ v=>v= iv n),(fun _ v=>v= iv ny),(fun _ v=>v= .agg #[iv wa,iv wb,iv wc,iv wd]),(fun _ v=>v= .agg #[iv pa,iv pb,iv pc,iv pd]),(DyT w2.heap.size ny (ny%7) tq (aU (eQ ny pa pb pc pd)) uq NA (prA tq uq)),(DyT w2.heap.size ny (ny%7) tq (aU (eQ ny pa pb pc pd)) uq NA (prA tq uq)),(fun w v=>DyV w w2.heap.size v ny (ny%7) tq (aU (eQ ny pa pb pc pd)) uq NA (prA tq uq)),(fun _ v=>v= iv 0),(fun w v=>∃g,v= .pointer (some ⟨g,0,none⟩)/\w2.heap.size<=g/\Blk w g [iv 0,iv 0,.bool false,.slice none 0 0,.slice none 0 0,.bool false,.slice none 0 0,.slice none 0 0,.bool false,.slice none 0 0,.slice none 0 0,.slice none 0 0])] [8] (by decide+kernel) rfl rfl ⟨(Mb.eq _),(Mb.eq _),(Mb.eq _),(Mb.eq _),DyT.mb,DyT.mb,(fun _ _ _ h hb=>h.below hb),(Mb.eq _),(fun _ _ _ ⟨g,e,l,o⟩ hb=>⟨g,e,l,o.below hb⟩),trivial⟩ ⟨fun _ _ ⟨g,e,_,o⟩=>⟨g,e,o.lt⟩,trivial⟩ rfl rfl ⟨?_,?_,?_,?_,?_,?_,?_,?_,?_,trivial⟩ ?_ ?_
  ·exact qM 9 rfl rfl rfl
  ·intro a' w' hF' hb hd
   have e22:=tE hd 0 rfl
   exact uM (rk CL (aB e22)) (qC _ hny) (fun _=>rfl) rfl rfl
  ·exact qL st 8 0 qP rfl rfl rfl rfl rfl
  ·intro a' w' hF' hb hd
   have e24:=tE hd 0 rfl
   exact uM (rk Dm (aB e24)) (mY _ hpa hpb hpc hpd) (fun _=>rfl) rfl rfl
  ·intro a' w' hF' hb hd
   have e23:=tE hd 0 rfl
   have e25:=tE hd 1 rfl
   exact dc0 (rgc k18 (aA e23 e25)) (tG (mT ny pa pb pc pd _ _ NA _ (hT.below (a5 st.bel hb)) (by first|assumption|constructor<;>omega) (by omega) (by omega) htq huq hNA) hb.size) rfl rfl
  ·intro a' w' hF' hb hd
   obtain⟨v0,e0,h0⟩:=tH hd 0 rfl
   exact dv0 (aI e0) h0 rfl rfl
  ·intro a' w' hF' hb hd
   obtain⟨_,e0,v0,rfl,h0⟩:=tH hd 0 rfl
   exact dv0 (aC (v:=v0) e0 rfl) h0 rfl rfl
  ·intro a' w' hF' hb hd
   obtain⟨_,e0,v0,rfl,h0⟩:=tH hd 0 rfl
   exact dv0 (aC (v:= iv 0) e0 rfl) rfl rfl rfl
  ·intro a' w' hF' hb hd
   exact yd bz hb.size rfl
  ·intro a w3 hF bb hall hne
   have s0:=st
   replace st:=st.to bb
   obtain⟨_,ep,g7,rfl,ge,og⟩:=sS hall 8 7 rfl rfl
   replace st:=st.push og (Nat.le_trans s0.bel.size ge) (s0.ne ge)
   obtain⟨_,ed,b1t,a1t,n1t,c1t,d1t,m1t,e1t,b2t,a2t,n2t,c2t,d2t,m2t,e2t,b3t,a3t,n3t,c3t,d3t,m3t,e3t,adt,capt,rfl,hr1t,hr2t,hr3t,hpt⟩:=sS hall 6 27 rfl rfl
   obtain⟨gp,cp,rfl,_,hge,hbk,hel⟩:=hpt.row (by omega)
   have hgp:gp≠g7:=by obtain⟨p0,l0,e1,e2⟩:=kg tq uq;exact jk hbk (e1▸hel) og (by rw[e2];decide)
   replace st:=((((st.push hbk (Nat.le_trans s0.bel.size hge) (fB (fun(e:g7=gp)=>hgp e.symm) (s0.ne hge))).add hr1t (Rl.cl _)).add hr2t (Rl.cl _)).add hr3t (Rl.cl _)).add hel (PEl.cl _)
   replace hF:=(hF.add ep).add ed
   have el:=sSe hall 7 28 rfl rfl
   replace hF:=hF.add el
   clear hall hne bb s0 og hbk hge hr1t hr2t hr3t hel hpt hgp ge
   refine S.stoIU st hF 1 rfl rfl (bN PEl.clU (bN Rl.clU (bN Rl.clU (bN Rl.clU ib)))) hF.q hF.p bz rfl rfl rfl fun w4 a st hF=>?_
   refine oA hF 0 rfl rfl fun a hF=>E.nil0<|E.norm ?_
   exact⟨_,_,_,_,_,_,_,_,_,_,_,_,_,_,_,_,_,_,_,_,_,_,_,_,_,Fr.pick (L':=[(7,.pointer (some ⟨g7,0,none⟩)),(8,iv 0),(1,iv c),(6,.bool false)]) hF [3,0,4,11] rfl,st.pick [1,0] [0,1,2,3] rfl rfl (by decide)⟩
  ·intro a w5 hF bb hall hne
   have s0:=st
   replace st:=st.to bb
   obtain⟨_,ep,g7,rfl,ge,og⟩:=sS hall 8 7 rfl rfl
   replace st:=st.push og (Nat.le_trans s0.bel.size ge) (s0.ne ge)
   obtain⟨_,ed,b1t,a1t,n1t,c1t,d1t,m1t,e1t,b2t,a2t,n2t,c2t,d2t,m2t,e2t,b3t,a3t,n3t,c3t,d3t,m3t,e3t,adt,capt,rfl,hr1t,hr2t,hr3t,hpt⟩:=sS hall 6 27 rfl rfl
   obtain⟨gp,cp,rfl,_,hge,hbk,hel⟩:=hpt.row (by omega)
   have hgp:gp≠g7:=by obtain⟨p0,l0,e1,e2⟩:=kg tq uq;exact jk hbk (e1▸hel) og (by rw[e2];decide)
   replace st:=((((st.push hbk (Nat.le_trans s0.bel.size hge) (fB (fun(e:g7=gp)=>hgp e.symm) (s0.ne hge))).add hr1t (Rl.cl _)).add hr2t (Rl.cl _)).add hr3t (Rl.cl _)).add hel (PEl.cl _)
   replace hF:=(hF.add ep).add ed
   obtain⟨_,el,v0,rfl,_⟩:=sS hall 5 21 rfl rfl
   replace hF:=hF.add el
   clear hall hne bb s0 og hbk hge hr1t hr2t hr3t hel hpt hgp ge
   refine S.stoIU st hF 1 rfl rfl (bN PEl.clU (bN Rl.clU (bN Rl.clU (bN Rl.clU ib)))) hF.q hF.p bz rfl rfl rfl fun w6 a st hF=>?_
   refine oV hF (aC (v:= iv 0) hF.o rfl) rfl fun a hF=>oA hF 0 rfl rfl fun a hF=>E.nil0<|E.norm ?_
   exact⟨_,_,_,_,_,_,_,_,_,_,_,_,_,_,_,_,_,_,_,_,_,_,_,_,_,Fr.pick (L':=[(7,.pointer (some ⟨g7,0,none⟩)),(8,iv 0),(1,iv c),(6,.bool false)]) hF [4,0,5,12] rfl,st.pick [1,0] [0,1,2,3] rfl rfl (by decide)⟩
 ·rintro a w7 ⟨g7,gp,cp,b1t,a1t,n1t,c1t,d1t,m1t,e1t,b2t,a2t,n2t,c2t,d2t,m2t,e2t,b3t,a3t,n3t,c3t,d3t,m3t,e3t,capt,hF,st⟩
  refine wp_seq<|wq<|oM hF 1 rfl rfl fun a hF=>oT hF 0 (cQ (c:=false) (aK (by decide))) rfl rfl fun a hF=>E.nil<|wp_cond_false hF.o<|wp_skip<|E.norm<|wq<|oL hF st 2 0 bz rfl rfl rfl rfl fun a hF=>oM hF 5 rfl rfl fun a hF=>?_
  refine E.call hF (rgc k25 (aA hF.p hF.o)) (d8 _ _ _ _ _ _ _ _ _ _ _ _ _ _ _ _ _ _ _ _ _ _ _ _ _ _ _ _ c (P+1) (prC c tq uq) _ (st.bk 1 rfl) (st.f 0 rfl) hNA (by omega) (nR (by omega) (by omega) _ _) (by rw[fF,hP])) rfl rfl rfl rfl ?_
  rintro e w8 ⟨adl9,capl9,rfl,hpl,bb⟩
  refine⟨_,rfl,?_⟩
  intro a hF
  obtain⟨gl9,cl9,rfl,_,hge,hbk,hll9⟩:=hpl.row (by rw[fF,hP];omega)
  replace st:=((st.to bb).push hbk (Nat.le_trans st.bel.size hge) (st.ne hge)).add hll9 (PEl.cl _)
  clear hpl hbk hge hll9 bb
  refine oA hF 0 rfl rfl fun a hF=>nq<|oV hF (ao (hF.at 6 rfl) (kB (p:=2) rfl)) rfl fun a hF=>oV hF (aq hF.o (bU (vs:=[.bool b1t,.slice a1t n1t c1t,.slice d1t m1t e1t]) (st.bk 1 rfl) rfl rfl)) rfl fun a hF=>S.new st hF 0 rfl aa rfl rfl rfl rfl rfl fun g10 w10 a st hF=>ns<|wq<|oM hF 3 rfl rfl fun a hF=>oV hF (aR (aB hF.o) cf) rfl fun a hF=>oV hF (aI ah) rfl fun a hF=>E.nil ?_
  refine wp_block ?_
  refine E.loop (fun mq a wv=>∃(j:Nat) (b9:Bool) (a9:Option Addr) (n9:Nat) (c9:Nat) (e9:Option Addr) (m9:Nat) (f9:Nat),j<=P+1/\Fr 112 a [(38,iv ((j:Nat):Int)),(37,iv (((P+1):Nat):Int)),(36,.slice (some ⟨gl9,0,none⟩) (P+1) capl9),(10,.pointer (some ⟨g10,0,none⟩)),(9,.slice (some ⟨gl9,0,none⟩) (P+1) capl9),(33,.slice (some ⟨gl9,0,none⟩) (P+1) capl9),(7,.pointer (some ⟨g7,0,none⟩)),(1,iv c)]/\St w wv [(g10,[.bool b9,.slice a9 n9 c9,.slice e9 m9 f9]),(gl9,cl9),(g7,[iv ny,iv (ny%7),.bool b1t,.slice a1t n1t c1t,.slice d1t m1t e1t,.bool b2t,.slice a2t n2t c2t,.slice d2t m2t e2t,.bool b3t,.slice a3t n3t c3t,.slice d3t m3t e3t,.slice (some ⟨gp,0,none⟩) NA capt]),(gp,cp)] [fun w=>Rq w (.agg #[.bool b9,.slice a9 n9 c9,.slice e9 m9 f9]) (paF c tq j),fun w=>PEl w cl9 (prC c tq uq),fun w=>PEl w cp (prA tq uq),fun w=>Rl (tq) (3) w (.agg #[.bool b1t,.slice a1t n1t c1t,.slice d1t m1t e1t]),fun w=>Rl (aU (eQ ny pa pb pc pd)) (3) w (.agg #[.bool b2t,.slice a2t n2t c2t,.slice d2t m2t e2t]),fun w=>Rl (uq) (3) w (.agg #[.bool b3t,.slice a3t n3t c3t,.slice d3t m3t e3t])]/\mq=P+1-j) ((P+1-0)) ?_ ?_
  ·exact⟨0,_,_,_,_,_,_,_,(Nat.zero_le _),Fr.pick (L':=[(38,iv ((0:Nat):Int)),(37,iv (((P+1):Nat):Int)),(36,.slice (some ⟨gl9,0,none⟩) (P+1) capl9),(10,.pointer (some ⟨g10,0,none⟩)),(9,.slice (some ⟨gl9,0,none⟩) (P+1) capl9),(33,.slice (some ⟨gl9,0,none⟩) (P+1) capl9),(7,.pointer (some ⟨g7,0,none⟩)),(1,iv c)]) hF [0,1,2,3,6,7,12,14] rfl,(st.add (Rq.castM (st.f 4 rfl).1 rfl) (Rq.cl _)).pick [0,1,2,3] [0,1,2,5,4,3] rfl rfl (by decide),rfl⟩
  ·rintro mq a w11 ⟨j,b9,a9,n9,c9,e9,m9,f9,hj,hF,st,hm⟩
   by_cases hlt:j<P+1
   ·obtain⟨b1x,a1x,n1x,c1x,d1x,m1x,e1x,b2x,a2x,n2x,c2x,d2x,m2x,e2x,hcx,hlx,hrx⟩:=((st.f 1 rfl)).at4 (i:=j) (c:=c) (f:=paF c tq j) (wG (by omega))
    replace st:=(st.add hlx (Rl.cl _)).add hrx (Rl.cl _)
    clear hlx hrx
    have hki:=kh hc0 hc4 (paF c tq j)
    rw[<-hkp] at hki
    refine wq ?_
    refine oU hF 0 1 (cw (c:=true) (aD (by omega))) rfl rfl rfl fun a hF=>ns<|wp_cond_true hF.o<|wp_skip<|E.norm<|wp_seq<|wp_block<|wq<|oM hF 1 rfl rfl fun a hF=>oV hF (dY (hF.at 4 rfl) hF.q (fV (i:=j) (by omega) (by omega))) rfl fun a hF=>oV hF (aq hF.o (pv (vs:=[iv c,iv (kI c (paF c tq j)),.bool b1x,.slice a1x n1x c1x,.slice d1x m1x e1x,.bool b2x,.slice a2x n2x c2x,.slice d2x m2x e2x]) (st.bk 1 rfl) hcx rfl)) rfl fun a hF=>S.alloc st hF eE rfl rfl fun g12 w12 a st hF=>?_
    refine oA hF 3 rfl rfl fun a hF=>?_
    refine S.stoIU st hF 0 rfl rfl (bN Rl.clU (bN Rl.clU (bN Rq.clU (bN PEl.clU (bN PEl.clU (bN Rl.clU (bN Rl.clU (bN Rl.clU ib)))))))) hF.p hF.q eE rfl rfl rfl fun w13 a st hF=>?_
    refine nq<|oM hF 13 rfl rfl fun a hF=>oL hF st 10 1 aa rfl rfl rfl rfl fun a hF=>?_
    refine S.call2 st hF (rgc k28 (aA hF.p hF.o)) (pE c _ _ 2 _ (hT.below st.bel) (st.f 2 rfl) (fK hc0 hc4 (hgt c) hbt.1 hbt.2 (j:=j) (by omega)).1 (by omega) ⟨by omega,by omega⟩) (fun _ _ h=>h) Rq.cl Rq.cl rfl rfl rfl rfl fun vv15 vv16 w14 a st hF=>?_
    obtain⟨r19,rfl⟩:=Rq.fo (st.f 0 rfl)
    obtain⟨r20,rfl⟩:=Rq.fo (st.f 1 rfl)
    refine oM hF 0 rfl rfl fun a hF=>oV hF (aC (v:= r19.v) hF.o rfl) rfl fun a hF=>oV hF (aC (v:= r20.v) hF.p rfl) rfl fun a hF=>S.alloc st hF aa rfl rfl fun g13 w21 a st hF=>S.alloc st hF aa rfl rfl fun g14 w22 a st hF=>so st hF 1 1 3 aa rfl rfl rfl rfl fun w23 a st hF=>so st hF 0 0 2 aa rfl rfl rfl rfl fun w24 a st hF=>ns<|wp_seq ?_
    refine E.rg 39 aF hF [49,50,51,52,53,54,55,56,57,58,59,60,61,62,63,64,65,66,67,68,69,70,71,72,73,74,75,76,77,78,79,80,81,82,83,84,85,86,87] [_,_,_,_,.ex (.bool false),.ex (.bool false),.ex (.pointer (some ⟨g12,5,none⟩)),.ex (.agg #[.bool b2x,.slice a2x n2x c2x,.slice d2x m2x e2x]),.ex (r20.v),.ex (.bool true),.ex (.bool false),.ex (.bool false),.ex (.bool false),.ex (.pointer (some ⟨g12,1,none⟩)),.ex (iv (kI c (paF c tq j))),.ex (iv c),.ex (.agg #[.bool b9,.slice a9 n9 c9,.slice e9 m9 f9]),.ex (iv (kX c (paF c tq j))),.ex (.bool false),.ex (.bool false),.ex (.bool false),.ex (iv c),.ex (.pointer (some ⟨g12,2,none⟩)),.ex (.agg #[.bool b1x,.slice a1x n1x c1x,.slice d1x m1x e1x]),.ex (iv (kX c (cC c (paF c tq j)))),.ex (.pointer (some ⟨g12,1,none⟩)),.ex (iv (kI c (paF c tq j))),.ex (.bool false),.ex (.bool false),.ex (.bool false),.ex (iv c),.ex (.pointer (some ⟨g12,5,none⟩)),.ex (.agg #[.bool b2x,.slice a2x n2x c2x,.slice d2x m2x e2x]),.ex (iv (kX c (bZ c (paF c tq j)))),.ex (.pointer (some ⟨g12,1,none⟩)),.ex (iv (kI c (paF c tq j))),.ex (iv ((kI c (paF c tq j))+1)),.ex (iv c),.ex (iv (kP c))] (by decide+kernel) rfl rfl rfl ⟨rfd 9 (fun _=>iW (p:=2) rfl) rfl,rld rfl fun _ hb=>(bU (vs:=[.bool b1x,.slice a1x n1x c1x,.slice d1x m1x e1x]) ((st.bk 2 rfl).below hb) rfl rfl),rb st aa 1 1 rfl,ck st k29 rfl fun _ s=>bv (nv _ _ (cC c (paF c tq j)) (cC c (paF c tq j)) _ (s.f 3 rfl).1 (s.f 0 rfl) rfl),(by intro a' w' hF' hb hd;have e52:=tE hd 0 rfl;exact dv0 (d9 e52 (cZ _ false rfl)) rfl rfl rfl),(by intro a' w' hF' hb hd;have e53:=tE hd 0 rfl;exact dv0 (aI e53) rfl rfl rfl),(by intro a' w' hF' hb hd;have e54:=tE hd 0 rfl;exact dv1 (az rfl rfl e54 rfl) (ao (hF'.at 9 rfl) (fp (p:=5) rfl)) rfl rfl),(by intro a' w' hF' hb hd;have e54:=tE hd 1 rfl;have e55:=tE hd 0 rfl;exact dv1 (az rfl rfl e54 rfl) (aq e55 (bU (vs:=[.bool b2x,.slice a2x n2x c2x,.slice d2x m2x e2x]) ((st.bk 2 rfl).below hb) rfl rfl)) rfl rfl),(by intro a' w' hF' hb hd;have e54:=tE hd 0 rfl;exact dv1 (az rfl rfl e54 rfl) (aq (hF'.at 0 rfl) (bi aa ((st.bk 0 rfl).below hb) rfl)) rfl rfl),(by intro a' w' hF' hb hd;have e54:=tE hd 2 rfl;have e56:=tE hd 0 rfl;have e57:=tE hd 1 rfl;exact oY (az rfl rfl e54 rfl) (rk FG (aA e56 e57)) (nv _ _ _ _ _ ((st.f 2 rfl).below hb).1 ((st.f 1 rfl).below hb) rfl) (fun _=>rfl) rfl),(by intro a' w' hF' hb hd;have e54:=tE hd 1 rfl;have e58:=tE hd 0 rfl;exact dv1 (az rfl rfl e54 rfl) (d9 e58 (cZ _ false rfl)) rfl rfl),(by intro a' w' hF' hb hd;have e54:=tE hd 0 rfl;have e59:=tE hd 1 rfl;exact dv0 (aZ e54 e59) rfl rfl rfl),(by intro a' w' hF' hb hd;have e60:=tE hd 0 rfl;exact dv0 (aI e60) rfl rfl rfl),(by intro a' w' hF' hb hd;have e61:=tE hd 0 rfl;exact dv1 (az rfl rfl e61 rfl) (ao (hF'.at 9 rfl) (gO (p:=1) rfl)) rfl rfl),(by intro a' w' hF' hb hd;have e61:=tE hd 1 rfl;have e62:=tE hd 0 rfl;exact dv1 (az rfl rfl e61 rfl) (aq e62 (cS (v:= iv (kI c (paF c tq j))) ((st.bk 2 rfl).below hb) rfl)) rfl rfl),(by intro a' w' hF' hb hd;have e61:=tE hd 0 rfl;exact dv1 (az rfl rfl e61 rfl) (aI (hF'.at 21 rfl)) rfl rfl),(by intro a' w' hF' hb hd;have e61:=tE hd 0 rfl;exact dv1 (az rfl rfl e61 rfl) (aq (hF'.at 17 rfl) (bi aa ((st.bk 3 rfl).below hb) rfl)) rfl rfl),(by intro a' w' hF' hb hd;have e61:=tE hd 2 rfl;have e64:=tE hd 0 rfl;have e65:=tE hd 1 rfl;exact oY (az rfl rfl e61 rfl) (rk yO (aA e64 e65)) (eG c _ _ 2 _ (hT.below (a5 st.bel hb)) ((st.f 4 rfl).below hb) (fK hc0 hc4 (hgt c) hbt.1 hbt.2 (j:=j) (by omega)).1 (by omega)) (fun _=>rfl) rfl),(by intro a' w' hF' hb hd;have e61:=tE hd 2 rfl;have e63:=tE hd 0 rfl;have e66:=tE hd 1 rfl;have hkx53586:=nP c (paF c tq j);exact dv1 (az rfl rfl e61 rfl) (ar e63 e66 ab (aM (cQ (c:=false) (aK (by rw[gW hc0 hc4];exact fun e=>e rfl))) (by simp))) rfl rfl),(by intro a' w' hF' hb hd;have e61:=tE hd 0 rfl;have e67:=tE hd 1 rfl;exact dv0 (aZ e61 e67) rfl rfl rfl),(by intro a' w' hF' hb hd;have e68:=tE hd 0 rfl;exact dv0 (aI e68) rfl rfl rfl),(by intro a' w' hF' hb hd;have e69:=tE hd 0 rfl;exact dv1 (az rfl rfl e69 rfl) (aI (hF'.at 21 rfl)) rfl rfl),(by intro a' w' hF' hb hd;have e69:=tE hd 0 rfl;exact dv1 (az rfl rfl e69 rfl) (ao (hF'.at 9 rfl) (iW (p:=2) rfl)) rfl rfl),(by intro a' w' hF' hb hd;have e69:=tE hd 1 rfl;have e71:=tE hd 0 rfl;exact dv1 (az rfl rfl e69 rfl) (aq e71 (bU (vs:=[.bool b1x,.slice a1x n1x c1x,.slice d1x m1x e1x]) ((st.bk 2 rfl).below hb) rfl rfl)) rfl rfl),(by intro a' w' hF' hb hd;have e69:=tE hd 2 rfl;have e70:=tE hd 0 rfl;have e72:=tE hd 1 rfl;exact oY (az rfl rfl e69 rfl) (rk yO (aA e70 e72)) (eG c _ _ 2 _ (hT.below (a5 st.bel hb)) ((st.f 3 rfl).below hb).1 ((st.f 3 rfl).below hb).2 (by omega)) (fun _=>rfl) rfl),(by intro a' w' hF' hb hd;have e69:=tE hd 0 rfl;exact dv1 (az rfl rfl e69 rfl) (ao (hF'.at 9 rfl) (gO (p:=1) rfl)) rfl rfl),(by intro a' w' hF' hb hd;have e69:=tE hd 1 rfl;have e74:=tE hd 0 rfl;exact dv1 (az rfl rfl e69 rfl) (aq e74 (cS (v:= iv (kI c (paF c tq j))) ((st.bk 2 rfl).below hb) rfl)) rfl rfl),(by intro a' w' hF' hb hd;have e69:=tE hd 2 rfl;have e73:=tE hd 0 rfl;have hkx95359:=nP c (cC c (paF c tq j));have e75:=tE hd 1 rfl;exact dv1 (az rfl rfl e69 rfl) (ar e73 e75 ab (aM (cQ (c:=false) (aK (by rw[gW hc0 hc4];exact fun e=>e (nW hc0 hc4 _)))) (by simp))) rfl rfl),(by intro a' w' hF' hb hd;have e69:=tE hd 0 rfl;have e76:=tE hd 1 rfl;exact dv0 (aZ e69 e76) rfl rfl rfl),(by intro a' w' hF' hb hd;have e77:=tE hd 0 rfl;exact dv0 (aI e77) rfl rfl rfl),(by intro a' w' hF' hb hd;have e78:=tE hd 0 rfl;exact dv1 (az rfl rfl e78 rfl) (aI (hF'.at 21 rfl)) rfl rfl),(by intro a' w' hF' hb hd;have e78:=tE hd 0 rfl;exact dv1 (az rfl rfl e78 rfl) (ao (hF'.at 9 rfl) (fp (p:=5) rfl)) rfl rfl),(by intro a' w' hF' hb hd;have e78:=tE hd 1 rfl;have e80:=tE hd 0 rfl;exact dv1 (az rfl rfl e78 rfl) (aq e80 (bU (vs:=[.bool b2x,.slice a2x n2x c2x,.slice d2x m2x e2x]) ((st.bk 2 rfl).below hb) rfl rfl)) rfl rfl),(by intro a' w' hF' hb hd;have e78:=tE hd 2 rfl;have e79:=tE hd 0 rfl;have e81:=tE hd 1 rfl;exact oY (az rfl rfl e78 rfl) (rk yO (aA e79 e81)) (eG c _ _ 2 _ (hT.below (a5 st.bel hb)) ((st.f 2 rfl).below hb).1 ((st.f 2 rfl).below hb).2 (by omega)) (fun _=>rfl) rfl),(by intro a' w' hF' hb hd;have e78:=tE hd 0 rfl;exact dv1 (az rfl rfl e78 rfl) (ao (hF'.at 9 rfl) (gO (p:=1) rfl)) rfl rfl),(by intro a' w' hF' hb hd;have e78:=tE hd 1 rfl;have e83:=tE hd 0 rfl;exact dv1 (az rfl rfl e78 rfl) (aq e83 (cS (v:= iv (kI c (paF c tq j))) ((st.bk 2 rfl).below hb) rfl)) rfl rfl),(by intro a' w' hF' hb hd;have e78:=tE hd 1 rfl;have e84:=tE hd 0 rfl;exact dv1 (az rfl rfl e78 rfl) (ar e84 ah ab (bl (by omega) (by omega))) rfl rfl),(by intro a' w' hF' hb hd;have e78:=tE hd 0 rfl;exact dv1 (az rfl rfl e78 rfl) (aI (hF'.at 21 rfl)) rfl rfl),(by intro a' w' hF' hb hd;have e78:=tE hd 2 rfl;have e86:=tE hd 0 rfl;exact oY (az rfl rfl e78 rfl) (rk FT (aB e86)) (mz c _) (fun _=>rfl) rfl),trivial⟩ ?_
    intro a w25 hF bb hall
    replace st:=st.to bb
    replace hF:=rE hall hF 29 rfl rfl
    replace hF:=rE hall hF 33 rfl rfl
    have hkx18862:=nP c (bZ c (paF c tq j))
    replace hF:=rE hall hF 36 rfl rfl
    replace hF:=rE hall hF 38 rfl rfl
    clear hall bb
    refine og hF (ar hF.p hF.o ab (ir (a:=(kI c (paF c tq j))+1) (b:=kP c) (by omega) (by omega))) 3 rfl rfl rfl fun a hF=>og hF (ar (hF.at 3 rfl) hF.o ab (aM (cQ (c:=false) (aK (by rw[gW hc0 hc4,hkp];exact fun e=>e (Eh hc0 hc4 _)))) (by simp))) 4 rfl rfl rfl fun a hF=>oV hF (aZ (hF.at 5 rfl) hF.o) rfl fun a hF=>E.nil<|wp_cond_false hF.o<|wp_skip<|E.norm<|wp_seq<|wq<|oL hF st 7 0 aa rfl rfl rfl rfl fun a hF=>oV hF (ao (hF.at 28 rfl) (j5 (p:=8) rfl)) rfl fun a hF=>oV hF (aq hF.o (bU (vs:=[.bool b3t,.slice a3t n3t c3t,.slice d3t m3t e3t]) (st.bk 5 rfl) rfl rfl)) rfl fun a hF=>?_
    refine cX st hF (rgc k31 (aA hF.q hF.o)) (fb _ _ _ (uq) (max (3*2+17) 3) _ (st.f 1 rfl) (st.f 9 rfl).1 ((zT (c:=c) (fK hc0 hc4 (hgt c) hbt.1 hbt.2 (j:=j) (by omega)).1).up _ (by omega)) ((st.f 9 rfl).2.up _ (by omega)) (by omega)) rfl fun w26 a st hF=>?_
    by_cases hc27:j<P
    ·refine oT hF 0 (hO (c:=false) (aK (fun e=>absurd ((kK hc0 hc4 (hgt c) (hgu c) hnx.1 j).2 (by omega)) (Rat.not_le.2 (kt.1 e))))) rfl rfl fun a hF=>oM hF 20 rfl rfl fun a hF=>oM hF 31 rfl rfl fun a hF=>oV hF (aR (aB hF.o) cf) rfl fun a hF=>oV hF (ar hF.o ah ab (de (by omega) (by omega))) rfl fun a hF=>oU hF 3 0 (aJ (c:=false) (aK (by omega))) rfl rfl rfl fun a hF=>oV hF (ar (hF.at 5 rfl) hF.o eJ (gj (d:=false) rfl)) rfl fun a hF=>E.nil<|wp_cond_false hF.o<|wp_skip<|E.norm<|E.seq ?_
     refine oL hF st 18 0 aa rfl rfl rfl rfl fun a hF=>so st hF 3 36 0 aa rfl rfl rfl rfl fun w28 a st hF=>E.nil0<|E.blk<|E.norm<|E.seq<|oV hF (ar (hF.at 33 rfl) ah ab (bl (by omega) (by omega))) rfl fun a hF=>oS hF (aI hF.o) rfl fun a hF=>E.nil0<|E.norm ?_
     replace hF:Fr 112 a [(38,iv ((j+1:Nat):Int)),(103,iv (((j:Nat):Int)+1)),(102,r20.v),(101,.bool false),(100,.bool false),(99,iv ((((P+1):Nat):Int)-1)),(98,iv (((P+1):Nat):Int)),(97,.slice (some ⟨gl9,0,none⟩) (P+1) capl9),(96,iv ((j:Nat):Int)),(95,.bool false),(94,iv (qc (bZ c (paF c tq j)) (uq))),(93,.agg #[.bool b3t,.slice a3t n3t c3t,.slice d3t m3t e3t]),(92,.pointer (some ⟨g7,8,none⟩)),(91,r20.v),(90,.bool false),(89,.bool false),(88,iv (((kI c (paF c tq j))+1)%(kP c))),(87,iv (kP c)),(85,iv ((kI c (paF c tq j))+1)),(82,iv (kX c (bZ c (paF c tq j)))),(78,.bool false),(14,.pointer (some ⟨g14,0,none⟩)),(13,.pointer (some ⟨g13,0,none⟩)),(48,r20.v),(47,r19.v),(43,.tuple #[r19.v,r20.v]),(46,.tuple #[r19.v,r20.v]),(45,.agg #[.bool b9,.slice a9 n9 c9,.slice e9 m9 f9]),(44,iv c),(11,iv ((j:Nat):Int)),(12,.pointer (some ⟨g12,0,none⟩)),(42,.agg #[iv c,iv (kI c (paF c tq j)),.bool b1x,.slice a1x n1x c1x,.slice d1x m1x e1x,.bool b2x,.slice a2x n2x c2x,.slice d2x m2x e2x]),(41,.pointer (some ⟨gl9,8*j,none⟩)),(40,iv ((j:Nat):Int)),(39,.bool true),(37,iv (((P+1):Nat):Int)),(36,.slice (some ⟨gl9,0,none⟩) (P+1) capl9),(10,.pointer (some ⟨g10,0,none⟩)),(9,.slice (some ⟨gl9,0,none⟩) (P+1) capl9),(33,.slice (some ⟨gl9,0,none⟩) (P+1) capl9),(7,.pointer (some ⟨g7,0,none⟩)),(1,iv c)]:=by rw[show((j+1:Nat):Int)=((j:Nat):Int)+1 by omega];exact hF
     exact⟨(P+1-(j+1)),by omega,⟨(j+1),_,_,_,_,_,_,_,(by omega),Fr.pick (L':=[(38,iv ((j+1:Nat):Int)),(37,iv (((P+1):Nat):Int)),(36,.slice (some ⟨gl9,0,none⟩) (P+1) capl9),(10,.pointer (some ⟨g10,0,none⟩)),(9,.slice (some ⟨gl9,0,none⟩) (P+1) capl9),(33,.slice (some ⟨gl9,0,none⟩) (P+1) capl9),(7,.pointer (some ⟨g7,0,none⟩)),(1,iv c)]) hF [0,35,36,37,38,39,40,41] rfl,(st.add (Rq.castM (st.f 1 rfl) rfl) (Rq.cl _)).pick [3,4,5,6] [0,6,7,8,9,10] rfl rfl (by decide),rfl⟩⟩
    ·refine oT hF 0 (hO (c:=true) (aD (kt.2 (Rat.not_le.1 fun e=>absurd ((kK hc0 hc4 (hgt c) (hgu c) hnx.1 j).1 e) (by omega))))) rfl rfl fun a hF=>oM hF 20 rfl rfl fun a hF=>oM hF 31 rfl rfl fun a hF=>oV hF (aR (aB hF.o) cf) rfl fun a hF=>oV hF (ar hF.o ah ab (de (by omega) (by omega))) rfl fun a hF=>oU hF 3 0 (aJ (c:=true) (aD (by omega))) rfl rfl rfl fun a hF=>oV hF (ar (hF.at 5 rfl) hF.o eJ (gj (d:=false) rfl)) rfl fun a hF=>E.nil<|wp_cond_false hF.o<|wp_skip<|E.norm<|E.seq ?_
     refine oL hF st 18 0 aa rfl rfl rfl rfl fun a hF=>so st hF 3 36 0 aa rfl rfl rfl rfl fun w29 a st hF=>E.nil0<|E.blk<|E.norm<|E.seq<|oV hF (ar (hF.at 33 rfl) ah ab (bl (by omega) (by omega))) rfl fun a hF=>oS hF (aI hF.o) rfl fun a hF=>E.nil0<|E.norm ?_
     replace hF:Fr 112 a [(38,iv ((j+1:Nat):Int)),(103,iv (((j:Nat):Int)+1)),(102,r20.v),(101,.bool false),(100,.bool true),(99,iv ((((P+1):Nat):Int)-1)),(98,iv (((P+1):Nat):Int)),(97,.slice (some ⟨gl9,0,none⟩) (P+1) capl9),(96,iv ((j:Nat):Int)),(95,.bool true),(94,iv (qc (bZ c (paF c tq j)) (uq))),(93,.agg #[.bool b3t,.slice a3t n3t c3t,.slice d3t m3t e3t]),(92,.pointer (some ⟨g7,8,none⟩)),(91,r20.v),(90,.bool false),(89,.bool false),(88,iv (((kI c (paF c tq j))+1)%(kP c))),(87,iv (kP c)),(85,iv ((kI c (paF c tq j))+1)),(82,iv (kX c (bZ c (paF c tq j)))),(78,.bool false),(14,.pointer (some ⟨g14,0,none⟩)),(13,.pointer (some ⟨g13,0,none⟩)),(48,r20.v),(47,r19.v),(43,.tuple #[r19.v,r20.v]),(46,.tuple #[r19.v,r20.v]),(45,.agg #[.bool b9,.slice a9 n9 c9,.slice e9 m9 f9]),(44,iv c),(11,iv ((j:Nat):Int)),(12,.pointer (some ⟨g12,0,none⟩)),(42,.agg #[iv c,iv (kI c (paF c tq j)),.bool b1x,.slice a1x n1x c1x,.slice d1x m1x e1x,.bool b2x,.slice a2x n2x c2x,.slice d2x m2x e2x]),(41,.pointer (some ⟨gl9,8*j,none⟩)),(40,iv ((j:Nat):Int)),(39,.bool true),(37,iv (((P+1):Nat):Int)),(36,.slice (some ⟨gl9,0,none⟩) (P+1) capl9),(10,.pointer (some ⟨g10,0,none⟩)),(9,.slice (some ⟨gl9,0,none⟩) (P+1) capl9),(33,.slice (some ⟨gl9,0,none⟩) (P+1) capl9),(7,.pointer (some ⟨g7,0,none⟩)),(1,iv c)]:=by rw[show((j+1:Nat):Int)=((j:Nat):Int)+1 by omega];exact hF
     exact⟨(P+1-(j+1)),by omega,⟨(j+1),_,_,_,_,_,_,_,(by omega),Fr.pick (L':=[(38,iv ((j+1:Nat):Int)),(37,iv (((P+1):Nat):Int)),(36,.slice (some ⟨gl9,0,none⟩) (P+1) capl9),(10,.pointer (some ⟨g10,0,none⟩)),(9,.slice (some ⟨gl9,0,none⟩) (P+1) capl9),(33,.slice (some ⟨gl9,0,none⟩) (P+1) capl9),(7,.pointer (some ⟨g7,0,none⟩)),(1,iv c)]) hF [0,35,36,37,38,39,40,41] rfl,(st.add (Rq.castM (st.f 1 rfl) rfl) (Rq.cl _)).pick [3,4,5,6] [0,6,7,8,9,10] rfl rfl (by decide),rfl⟩⟩
   ·refine wp_seq<|E.seq ?_
    refine oU hF 0 1 (cw (c:=false) (aK (by omega))) rfl rfl rfl fun a hF=>ns<|wp_cond_false hF.o<|wp_exit<|E.past<|E.past<|E.out (id:=0)<|E.norm<|wq<|oM hF 5 rfl rfl fun a hF=>oV hF (aR (aB hF.o) cf) rfl fun a hF=>oT hF 0 (fM (c:=true) (aD (by omega))) rfl rfl fun a hF=>oM hF 0 rfl rfl fun a hF=>og hF (aI (hF.at 9 rfl)) 0 rfl rfl rfl fun a hF=>og hF (aR (aB hF.o) cf) 1 rfl rfl rfl fun a hF=>og hF (ar hF.o ah ab (aM (bA (c:=true) (aD (by omega))) (by simp))) 2 rfl rfl rfl fun a hF=>?_
    refine oV hF (aO (hF.at 3 rfl) hF.o) rfl fun a hF=>oA hF 0 rfl rfl fun a hF=>nr ?_
    have bel:=st.bel
    refine rt Tryz.results4 hF 0 rfl ?_
    exact⟨rfl,bel⟩
end Go.Proofs.YtgdpkknapcgcbaaGreatDoor
