import Derived.Test.YtplngpfpcheofaaGreatDoorKE30
namespace Go.Proofs.YtplngpfpcheofaaGreatDoor
open Go.RowKit
set_option maxRecDepth 100000
set_option linter.unusedVariables false
set_option maxHeartbeats 8000000
theorem ke (w:World):
 Calls Tryz.prog 150 #[] w (cf w pyr 7):=by
 have st:=St.start w
 refine go0 (nt:=2) Tryz.func150 rfl rfl fun a hF=>?_
 refine wq ?_
 refine S.alloc st hF ah rfl rfl fun g0 w1 a st hF=>?_
 refine nq ?_
 refine ca st hF (rk k16 (ar ao ao)) (bQ (394479457) (1080000) _ (by decide) (by decide) (by decide) (by decide)) (fun _ _ h=>h) Rr.cl rfl fun vv3 w2 a st hF=>?_
 obtain⟨r5,rfl⟩:=Rr.fo (st.f 0 rfl)
 refine so st hF 0 1 0 ah rfl rfl rfl rfl fun w6 a st hF=>?_
 refine nr ?_
 refine rs Tryz.results150 st hF 1 0 ah rfl rfl rfl ?_
 have bel:=st.bel
 exact⟨_,rfl,Rr.cast (Rr.up (st.f 0 rfl) _ (by omega)) (by decide+kernel),bel⟩
theorem ng (w:World):
 Calls Tryz.prog 148 #[] w (cf w pmo 7):=by
 have st:=St.start w
 refine go0 (nt:=4) Tryz.func148 rfl rfl fun a hF=>?_
 refine wq ?_
 refine S.alloc st hF ah rfl rfl fun g0 w1 a st hF=>?_
 refine nq ?_
 refine ca st hF (rk k16 (ar ao ao)) (a9 (27) _ (by decide) (by decide)) (fun _ _ h=>h) Rr.cl rfl fun vv3 w2 a st hF=>?_
 obtain⟨r5,rfl⟩:=Rr.fo (st.f 0 rfl)
 refine ca st hF (rk k16 (ar ao ao)) (bQ (4644439) (14438334) _ (by decide) (by decide) (by decide) (by decide)) (fun _ _ h=>h) Rr.cl rfl fun vv7 w6 a st hF=>?_
 obtain⟨r9,rfl⟩:=Rr.fo (st.f 0 rfl)
 refine ca st hF (rk k35 (ar (hF.at 1 rfl) (hF.at 0 rfl))) (cQ _ _ _ _ 2 2 _ (st.f 1 rfl) (st.f 0 rfl) (by omega) (by omega) (by omega) (by omega)) (fun _ _ h=>h) Rr.cl rfl fun vv11 w10 a st hF=>?_
 obtain⟨r13,rfl⟩:=Rr.fo (st.f 0 rfl)
 refine so st hF 0 3 0 ah rfl rfl rfl rfl fun w14 a st hF=>?_
 refine nr ?_
 refine rs Tryz.results148 st hF 3 0 ah rfl rfl rfl ?_
 have bel:=st.bel
 exact⟨_,rfl,Rr.cast (Rr.up (st.f 0 rfl) _ (by omega)) (by decide+kernel),bel⟩
theorem jx (w:World):
 Calls Tryz.prog 151 #[] w (cf w pay 7):=by
 have st:=St.start w
 refine go0 (nt:=2) Tryz.func151 rfl rfl fun a hF=>?_
 refine wq ?_
 refine S.alloc st hF ah rfl rfl fun g0 w1 a st hF=>?_
 refine nq ?_
 refine ca st hF (rk k16 (ar ao ao)) (bQ (1577917828000) (4319999613) _ (by decide) (by decide) (by decide) (by decide)) (fun _ _ h=>h) Rr.cl rfl fun vv3 w2 a st hF=>?_
 obtain⟨r5,rfl⟩:=Rr.fo (st.f 0 rfl)
 refine so st hF 0 1 0 ah rfl rfl rfl rfl fun w6 a st hF=>?_
 refine nr ?_
 refine rs Tryz.results151 st hF 1 0 ah rfl rfl rfl ?_
 have bel:=st.bel
 exact⟨_,rfl,Rr.cast (Rr.up (st.f 0 rfl) _ (by omega)) (by decide+kernel),bel⟩
theorem jd (w:World):
 Calls Tryz.prog 149 #[] w (cf w pam 7):=by
 have st:=St.start w
 refine go0 (nt:=2) Tryz.func149 rfl rfl fun a hF=>?_
 refine wq ?_
 refine S.alloc st hF ah rfl rfl fun g0 w1 a st hF=>?_
 refine nq ?_
 refine ca st hF (rk k16 (ar ao ao)) (bQ (1577917828) (57265137) _ (by decide) (by decide) (by decide) (by decide)) (fun _ _ h=>h) Rr.cl rfl fun vv3 w2 a st hF=>?_
 obtain⟨r5,rfl⟩:=Rr.fo (st.f 0 rfl)
 refine so st hF 0 1 0 ah rfl rfl rfl rfl fun w6 a st hF=>?_
 refine nr ?_
 refine rs Tryz.results149 st hF 1 0 ah rfl rfl rfl ?_
 have bel:=st.bel
 exact⟨_,rfl,Rr.cast (Rr.up (st.f 0 rfl) _ (by omega)) (by decide+kernel),bel⟩
theorem lq (w:World):
 Calls Tryz.prog 188 #[] w (cf w cre 12):=by
 have st:=St.start w
 refine go0 (nt:=6) Tryz.func188 rfl rfl fun a hF=>?_
 refine wq ?_
 refine S.alloc st hF ah rfl rfl fun g0 w1 a st hF=>?_
 refine nq ?_
 refine ca st hF (rk k16 (ar ao ao)) (a9 ((-1132959)) _ (by decide) (by decide)) (fun _ _ h=>h) Rr.cl rfl fun vv3 w2 a st hF=>?_
 obtain⟨r5,rfl⟩:=Rr.fo (st.f 0 rfl)
 refine ca st hF (rk k16 (ar ao ao)) (a9 (1955880000) _ (by decide) (by decide)) (fun _ _ h=>h) Rr.cl rfl fun vv7 w6 a st hF=>?_
 obtain⟨r9,rfl⟩:=Rr.fo (st.f 0 rfl)
 refine ca st hF (rk yn eh) (ke _) (fun _ _ h=>h) Rr.cl rfl fun vv11 w10 a st hF=>?_
 obtain⟨r13,rfl⟩:=Rr.fo (st.f 0 rfl)
 refine ca st hF (rk k69 (ar (hF.at 1 rfl) (hF.at 0 rfl))) (cm _ _ _ (pyr) 2 7 _ (st.f 1 rfl) (st.f 0 rfl) (by omega) (by omega) (by omega) (by omega)) (fun _ _ h=>h) Rr.cl rfl fun vv15 w14 a st hF=>?_
 obtain⟨r17,rfl⟩:=Rr.fo (st.f 0 rfl)
 refine ca st hF (rk k68 (ar (hF.at 3 rfl) (hF.at 0 rfl))) (cN _ _ _ _ 2 (2+7) _ (st.f 3 rfl) (st.f 0 rfl) (by omega) (by omega) (by omega) (by omega)) (fun _ _ h=>h) Rr.cl rfl fun vv19 w18 a st hF=>?_
 obtain⟨r21,rfl⟩:=Rr.fo (st.f 0 rfl)
 refine so st hF 0 5 0 ah rfl rfl rfl rfl fun w22 a st hF=>?_
 refine nr ?_
 refine rs Tryz.results188 st hF 5 0 ah rfl rfl rfl ?_
 have bel:=st.bel
 exact⟨_,rfl,Rr.cast (Rr.up (st.f 0 rfl) _ (by omega)) (by decide+kernel),bel⟩
theorem na (v1 v2:Value) (q1 q2:Rat) (k j i l:Nat) (w:World) (h1:Rr w v1 q1 k) (h2:Rr w v2 q2 j) (li1:az q1 i) (li2:az q2 l) (hp:1≤k) (hp2:1≤j) (hk:k≤100) (hj:j≤100) (hi:i≤100) (hl:l≤100):
 Calls Tryz.prog 171 #[v1,v2] w (cf w (mof q1 q2) (k+j+i+l+30)):=by
 obtain⟨b1,ad1,n1,c1,ae1,m1,d1,z1,D1,rfl,hn1,hd1,hD1,hq1,lz1,lD1⟩:=h1.shape
 have h1:Rr w (.agg #[.bool b1,.slice ad1 n1 c1,.slice ae1 m1 d1]) q1 k:=⟨_,_,_,_,_,_,_,_,_,rfl,hn1,hd1,hD1,hq1,lz1,lD1⟩
 have ha1:=hn1.abs
 have hb1:=hn1.neg
 replace hq1:=Lib.hid hq1
 obtain⟨b2,ad2,n2,c2,ae2,m2,d2,z2,D2,rfl,hn2,hd2,hD2,hq2,lz2,lD2⟩:=h2.shape
 have h2:Rr w (.agg #[.bool b2,.slice ad2 n2 c2,.slice ae2 m2 d2]) q2 j:=⟨_,_,_,_,_,_,_,_,_,rfl,hn2,hd2,hD2,hq2,lz2,lD2⟩
 have ha2:=hn2.abs
 have hb2:=hn2.neg
 replace hq2:=Lib.hid hq2
 by_cases h0:sz (Rat.num (q2))≤0
 ·have st:=St.start w
  refine go2 (nt:=22) Tryz.func171 rfl rfl rfl fun a hF=>?_
  refine wq ?_
  refine bx st hF 0 rfl rfl fun g2 w1 a st hF=>?_
  refine bx st hF 2 rfl rfl fun g3 w2 a st hF=>?_
  refine S.alloc st hF ah rfl rfl fun g4 w3 a st hF=>?_
  refine ns ?_
  refine wq ?_
  refine oL hF st 1 1 ah rfl rfl rfl rfl fun a hF=>?_
  refine cX st hF (rk jq (aB (hF.at 0 rfl))) (eE _ (q2) j _ (h2.below st.bel)) rfl fun w4 a st hF=>?_
  refine oV hF (av (hF.at 0 rfl) ao ab (aC (f6 (c:=true) (aP h0)) (by simp))) rfl fun a hF=>?_
  refine E.nil ?_
  refine wp_cond_true (hF.at 0 rfl) ?_
  refine wq ?_
  refine ca st hF (rk k16 (ar ao ao)) (a9 (0) _ (by decide) (by decide)) (fun _ _ h=>h) Rr.cl rfl fun vv6 w5 a st hF=>?_
  obtain⟨r8,rfl⟩:=Rr.fo (st.f 0 rfl)
  refine so st hF 0 4 0 ah rfl rfl rfl rfl fun w9 a st hF=>?_
  refine nr ?_
  refine rs Tryz.results171 st hF 4 0 ah rfl rfl rfl ?_
  have bel:=st.bel
  exact⟨_,rfl,Rr.cast (Rr.up (st.f 0 rfl) _ (by omega)) (Rat.intCast_zero.trans (sB h0)),bel⟩
 ·have st:=St.start w
  refine go2 (nt:=22) Tryz.func171 rfl rfl rfl fun a hF=>?_
  refine wq ?_
  refine bx st hF 0 rfl rfl fun g2 w1 a st hF=>?_
  refine bx st hF 2 rfl rfl fun g3 w2 a st hF=>?_
  refine S.alloc st hF ah rfl rfl fun g4 w3 a st hF=>?_
  refine ns ?_
  refine wq ?_
  refine oL hF st 1 1 ah rfl rfl rfl rfl fun a hF=>?_
  refine cX st hF (rk jq (aB (hF.at 0 rfl))) (eE _ (q2) j _ (h2.below st.bel)) rfl fun w4 a st hF=>?_
  refine oV hF (av (hF.at 0 rfl) ao ab (aC (f6 (c:=false) (aZ h0)) (by simp))) rfl fun a hF=>?_
  refine E.nil ?_
  refine wp_cond_false (hF.at 0 rfl) ?_
  refine wp_skip ?_
  refine E.norm ?_
  refine wp_seq ?_
  refine eD 6 aJ hF [10,11,12,13,14,5] [(Iz (.agg #[.bool b1,.slice ad1 n1 c1,.slice ae1 m1 d1])),(Ir (cre) (12)),(Ir ((q1)-(cre)) ((k+12+1))),(Iz (.agg #[.bool b2,.slice ad2 n2 c2,.slice ae2 m2 d2])),(Ir (((q1)-(cre))/(q2)) (((k+12+1)+j))),(Ip w4)] [5] (by decide+kernel) rfl rfl ⟨fun _ _ ⟨g,e,_,o⟩=>⟨g,e,o.lt⟩,trivial⟩ ⟨?_,?_,?_,?_,?_,?_,trivial⟩ ?_
  ·exact qL st 5 2 ah rfl rfl rfl rfl rfl
  ·intro a' w' hF' hb hd
   exact dc0 (rk AF eh) (lq _) rfl rfl
  ·intro a' w' hF' hb hd
   have e10:=tE hd 0 rfl
   obtain⟨v11_0,e11,h11_1⟩:=tH hd 1 rfl
   exact dc0 (rk k68 (ar e10 e11)) (cN _ _ (q1) (cre) k 12 _ (h1.below (aa st.bel hb)) h11_1 (by omega) (by omega) (by omega) (by omega)) rfl rfl
  ·exact qL st 4 1 ah rfl rfl rfl rfl rfl
  ·intro a' w' hF' hb hd
   obtain⟨v12_0,e12,h12_1⟩:=tH hd 0 rfl
   have e13:=tE hd 1 rfl
   exact dc0 (rk qX (ar e12 e13)) (hC _ _ _ (q2) (k+12+1) j _ h12_1 (h2.below (aa st.bel hb)) (by omega) (by omega) (by omega) (by omega)) rfl rfl
  ·intro a' w' hF' hb hd
   exact da0 ah rfl hb.size rfl
  intro a w5 hF bb hall hne
  have s0:=st
  replace st:=st.to bb
  obtain⟨vv6,hF,st⟩:=aS hall hF st 4 rfl rfl Rr.cl
  obtain⟨_,e5,g5,rfl,ge5,o5⟩:=sS hall 5 5 rfl rfl
  replace st:=st.push o5.blk (Nat.le_trans s0.bel.size ge5) (s0.ne ge5)
  clear o5
  clear hall hne bb s0
  obtain⟨r8,rfl⟩:=Rr.fo (st.f 0 rfl)
  replace hF:=hF.add e5
  clear e5
  refine so st hF 0 0 1 ah rfl rfl rfl rfl fun w9 a st hF=>?_
  refine ns ?_
  refine E.drawn 7 aJ hF [15,16,17,18,19,20,21] [(fun _ v=>v=r8.v),(fun _ v=>v=r8.v),(fun w v=>Rz w v (Rat.floor (((q1)-(cre))/(q2)))),(fun w v=>Rr w v (((Rat.floor (((q1)-(cre))/(q2)):Int):Rat)) (((((i+2+1)+l)+1)+1))),(fun w v=>Rr w v ((((q1)-(cre))/(q2))-(((Rat.floor (((q1)-(cre))/(q2)):Int):Rat))) ((((k+12+1)+j)+((((i+2+1)+l)+1)+1)+1))),(fun w v=>Rr w v (((360:Int):Rat)) (2)),(fun w v=>Rr w v (((((q1)-(cre))/(q2))-(((Rat.floor (((q1)-(cre))/(q2)):Int):Rat)))*(((360:Int):Rat))) (((((k+12+1)+j)+((((i+2+1)+l)+1)+1)+1)+2)))] [] (by decide+kernel) (by decide+kernel) rfl rfl rfl ⟨(Mb.eq _),(Mb.eq _),(fun _ _ _ h hb=>h.below hb),(fun _ _ _ h hb=>h.below hb),(fun _ _ _ h hb=>h.below hb),(fun _ _ _ h hb=>h.below hb),(fun _ _ _ h hb=>h.below hb),trivial⟩ trivial ⟨?_,?_,?_,?_,?_,?_,?_,trivial⟩ ?_
  ·exact qL st 0 0 ah rfl rfl rfl rfl rfl
  ·exact qL st 0 0 ah rfl rfl rfl rfl rfl
  ·intro a' w' hF' hb hd
   have e16:=tE hd 0 rfl
   exact dc0 (rk tR (aB e16)) (i7 _ _ ((k+12+1)+j) _ ((st.f 0 rfl).below hb) (by omega) (by omega)) rfl rfl
  ·intro a' w' hF' hb hd
   obtain⟨v17_0,e17,h17_1⟩:=tH hd 0 rfl
   exact dc0 (rk yi (aB e17)) (ld _ (Rat.floor (((q1)-(cre))/(q2))) ((((i+2+1)+l)+1)+1) _ h17_1 (Lim.up (gG (b7 (bl li1 jT) li2)) _ (by omega)) (by omega)) rfl rfl
  ·intro a' w' hF' hb hd
   have e15:=tE hd 0 rfl
   obtain⟨v18_0,e18,h18_1⟩:=tH hd 1 rfl
   exact dc0 (rk k68 (ar e15 e18)) (cN _ _ _ (((Rat.floor _:Int):Rat)) ((k+12+1)+j) ((((i+2+1)+l)+1)+1) _ ((st.f 0 rfl).below hb) h18_1 (by omega) (by omega) (by omega) (by omega)) rfl rfl
  ·intro a' w' hF' hb hd
   exact dc0 (rk k16 (ar ao ao)) (a9 (360) _ (by decide) (by decide)) rfl rfl
  ·intro a' w' hF' hb hd
   obtain⟨v19_0,e19,h19_1⟩:=tH hd 0 rfl
   obtain⟨v20_0,e20,h20_1⟩:=tH hd 1 rfl
   exact dc0 (rk k69 (ar e19 e20)) (cm _ _ _ _ (((k+12+1)+j)+((((i+2+1)+l)+1)+1)+1) 2 _ h19_1 h20_1 (by omega) (by omega) (by omega) (by omega)) rfl rfl
  intro a w10 hF bb hall hne
  replace st:=st.to bb
  obtain⟨vv11,hF,st⟩:=aS hall hF st 6 rfl rfl Rr.cl
  clear hall hne bb
  obtain⟨r13,rfl⟩:=Rr.fo (st.f 0 rfl)
  refine so st hF 1 6 0 ah rfl rfl rfl rfl fun w14 a st hF=>?_
  refine nr ?_
  refine rs Tryz.results171 st hF 6 1 ah rfl rfl rfl ?_
  have bel:=st.bel
  exact⟨_,rfl,Rr.cast (Rr.up (st.f 0 rfl) _ (by omega)) (qn h0),bel⟩
end Go.Proofs.YtplngpfpcheofaaGreatDoor
