import Derived.Test.YtplngpfpcheofaaGreatDoorKE42
namespace Go.Proofs.YtplngpfpcheofaaGreatDoor
open Go.RowKit
set_option maxRecDepth 100000
set_option linter.unusedVariables false
set_option maxHeartbeats 8000000
theorem AK {a:Act} {x0 x1 x2 x3 x4 x5:Operand} {u0 u1 u2 u3 u4 u5:Value} (h0:a.eval x0=u0) (h1:a.eval x1=u1) (h2:a.eval x2=u2) (h3:a.eval x3=u3) (h4:a.eval x4=u4) (h5:a.eval x5=u5):#[x0,x1,x2,x3,x4,x5].map a.eval=#[u0,u1,u2,u3,u4,u5]:=by simp[h0,h1,h2,h3,h4,h5]
theorem yC:(Tryz.f44.name == "runtime.NumGoroutine")=false∧Tryz.f44.body.isNone=false:=⟨by decide+kernel,by kernel_rfl⟩
theorem rK (v1 v2 v93 v94:Value) (q1 q2 q93 q94:Rat) (ka kb k3 k4:Nat) (K N:Int) (w:World) (h1:Rq w v1 q1) (h2:Rq w v2 q2) (h93:Rr w v93 q93 k3) (h94:Rr w v94 q94 k4) (la:az q1 ka) (lb:az q2 kb) (ea:q1=atR q93 q94 K N) (eb:q2=atR q93 q94 (K+1) N) (hka:ka≤1000) (hkb:kb≤1000) (hp:1≤k3) (hp2:1≤k4) (hk:k3≤100) (hj:k4≤100) (hK0: -1000000000000≤K) (hK1:K≤1000000000000) (hN0: -1000000000000≤N) (hN1:N≤1000000000000):
 Calls Tryz.prog 15 #[v1,v2,v93,v94,.int .i64 K,.int .i64 N] w (aX w (.bool true)):=by
 obtain⟨r93,rfl⟩:=h93.fo
 obtain⟨r94,rfl⟩:=h94.fo
 have st:=St.start w
 refine E.enter (nt:=32) (L:=[(0,v1),(1,v2),(2,r93.v),(3,r94.v),(4,.int .i64 K),(5,.int .i64 N)]) Tryz.func15 rfl rfl rfl (aQ (i:=0) rfl (aQ (i:=1) rfl (aQ (i:=2) rfl (aQ (i:=3) rfl (aQ (i:=4) rfl (aQ (i:=5) rfl dF)))))) ?_
 intro a hF
 refine wq ?_
 obtain⟨r2,rfl⟩:=Rq.fo h1
 refine bx st hF 0 rfl rfl fun g6 w1 a st hF=>?_
 obtain⟨r4,rfl⟩:=Rq.fo h2
 refine bx st hF 2 rfl rfl fun g7 w3 a st hF=>?_
 refine bx st hF 4 rfl rfl fun g8 w5 a st hF=>?_
 refine bx st hF 6 rfl rfl fun g9 w6 a st hF=>?_
 refine oC hF rfl fun a hF=>?_
 refine ns ?_
 refine eD 19 aJ hF [13,14,15,16,17,18,19,20,21,22,23,24,25,26,27,28,29,30,31] [(Iz r2.v),(Iz r93.v),(Iz r94.v),(Iz (.int .i64 K)),(Iz (.int .i64 N)),(Ir (atR (q93) (q94) K N) ((2*k3+k4+4))),(Iz (.int .i64 0)),(Iz (.bool true)),(Iz (.bool true)),(Iz r4.v),(Iz r93.v),(Iz r94.v),(Iz (.int .i64 K)),(Iz (.int .i64 (K+1))),(Iz (.int .i64 N)),(Ir (atR (q93) (q94) (K+1) N) ((2*k3+k4+4))),(Iz (.int .i64 0)),(Iz (.bool true)),(Iz (.bool true))] [] (by decide+kernel) rfl rfl trivial ⟨?_,?_,?_,?_,?_,?_,?_,?_,?_,?_,?_,?_,?_,?_,?_,?_,?_,?_,?_,trivial⟩ ?_
 ·exact qL st 4 3 ag rfl rfl rfl rfl rfl
 ·exact qL st 2 1 ah rfl rfl rfl rfl rfl
 ·exact qL st 1 0 ah rfl rfl rfl rfl rfl
 ·exact qM 9 rfl rfl rfl
 ·exact qM 10 rfl rfl rfl
 ·intro a' w' hF' hb hd
  have e14:=tE hd 0 rfl
  have e15:=tE hd 1 rfl
  have e16:=tE hd 2 rfl
  have e17:=tE hd 3 rfl
  exact dc0 (rk k52 (jc e14 e15 e16 e17)) (jv _ _ (q93) (q94) k3 k4 K N _ (h93.below (aa st.bel hb)) (h94.below (aa st.bel hb)) (by omega) (by omega) (by omega) (by omega) (by omega) (by omega) (by omega) (by omega)) rfl rfl
 ·intro a' w' hF' hb hd
  have e13:=tE hd 0 rfl
  obtain⟨v18_0,e18,h18_1⟩:=tH hd 1 rfl
  exact bD (rk k51 (ar e13 e18)) (pP _ _ (q1) _ ka (2*k3+k4+4) _ (h1.below (aa st.bel hb)) h18_1 la ea (by omega) (by omega)) (fun _=>rfl) rfl rfl
 ·intro a' w' hF' hb hd
  have e19:=tE hd 0 rfl
  exact dv0 (av e19 ao ab (aC (aK (c:=true) (by decide)) (by simp))) rfl rfl rfl
 ·intro a' w' hF' hb hd
  have e20:=tE hd 0 rfl
  exact dv0 (aY e20) rfl rfl rfl
 ·intro a' w' hF' hb hd
  have e21:=tE hd 0 rfl
  exact dv1 (aq rfl rfl e21 rfl) (aw (hF'.at 3 rfl) (bp ag ((st.bk 2 rfl).below hb) rfl)) rfl rfl
 ·intro a' w' hF' hb hd
  have e21:=tE hd 0 rfl
  exact dv1 (aq rfl rfl e21 rfl) (aw (hF'.at 2 rfl) (bp ah ((st.bk 1 rfl).below hb) rfl)) rfl rfl
 ·intro a' w' hF' hb hd
  have e21:=tE hd 0 rfl
  exact dv1 (aq rfl rfl e21 rfl) (aw (hF'.at 1 rfl) (bp ah ((st.bk 0 rfl).below hb) rfl)) rfl rfl
 ·intro a' w' hF' hb hd
  have e21:=tE hd 0 rfl
  exact dv1 (aq rfl rfl e21 rfl) (aY (hF'.at 9 rfl)) rfl rfl
 ·intro a' w' hF' hb hd
  have e21:=tE hd 1 rfl
  have e25:=tE hd 0 rfl
  exact dv1 (aq rfl rfl e21 rfl) (av e25 ao ab (bh (by omega) (by omega))) rfl rfl
 ·intro a' w' hF' hb hd
  have e21:=tE hd 0 rfl
  exact dv1 (aq rfl rfl e21 rfl) (aY (hF'.at 10 rfl)) rfl rfl
 ·intro a' w' hF' hb hd
  have e21:=tE hd 4 rfl
  have e23:=tE hd 0 rfl
  have e24:=tE hd 1 rfl
  have e26:=tE hd 2 rfl
  have e27:=tE hd 3 rfl
  exact dc1 (aq rfl rfl e21 rfl) (rk k52 (jc e23 e24 e26 e27)) (jv _ _ (q93) (q94) k3 k4 (K+1) N _ (h93.below (aa st.bel hb)) (h94.below (aa st.bel hb)) (by omega) (by omega) (by omega) (by omega) (by omega) (by omega) (by omega) (by omega)) rfl
 ·intro a' w' hF' hb hd
  have e21:=tE hd 3 rfl
  have e22:=tE hd 0 rfl
  obtain⟨v28_0,e28,h28_1⟩:=tH hd 1 rfl
  exact fM (aq rfl rfl e21 rfl) (rk k51 (ar e22 e28)) (pP _ _ (q2) _ kb (2*k3+k4+4) _ (h2.below (aa st.bel hb)) h28_1 lb eb (by omega) (by omega)) (fun _=>rfl) rfl
 ·intro a' w' hF' hb hd
  have e21:=tE hd 1 rfl
  have e29:=tE hd 0 rfl
  exact dv1 (aq rfl rfl e21 rfl) (av e29 ao ab (aC (aK (c:=true) (by decide)) (by simp))) rfl rfl
 ·intro a' w' hF' hb hd
  have e21:=tE hd 0 rfl
  have e30:=tE hd 1 rfl
  exact dv0 (bR e21 e30) rfl rfl rfl
 intro a w7 hF bb hall hne
 replace st:=st.to bb
 replace hF:=aE hall hF 18 rfl rfl
 clear hall hne bb
 refine oE hF 0 rfl rfl fun a hF=>?_
 refine nr ?_
 have bel:=st.bel
 refine rt Tryz.results15 hF 0 rfl ?_
 exact⟨rfl,bel⟩
theorem vN (v1:Value) (qt:Rat) (k:Nat) (w:World) (h1:Rq w v1 qt) (hl:az qt k) (hk:k≤100):
 Calls Tryz.prog 44 #[v1] w (aX w (.bool (awp qt))):=by
 have st:=St.start w
 refine go1 (nt:=7) Tryz.func44 rfl rfl rfl fun a hF=>?_
 refine wq ?_
 obtain⟨r2,rfl⟩:=Rq.fo h1
 refine bx st hF 0 rfl rfl fun g1 w1 a st hF=>?_
 refine oC hF rfl fun a hF=>?_
 refine ns ?_
 refine eD 4 aJ hF [3,4,5,6] [(Iz r2.v),(Iq (((1:Int):Rat)/((3:Int):Rat))),(Iz (.int .i64 (qc (qt) (((1:Int):Rat)/((3:Int):Rat))))),(Iz (.bool (decide (0<qc (qt) (((1:Int):Rat)/((3:Int):Rat))))))] [] (by decide+kernel) rfl rfl trivial ⟨?_,?_,?_,?_,trivial⟩ ?_
 ·exact qL st 1 0 ag rfl rfl rfl rfl rfl
 ·intro a' w' hF' hb hd
  exact dc0 (rk k22 (ar ao ao)) (bZ (1) (3) _ (by decide) (by decide) (by decide) (by decide)) rfl rfl
 ·intro a' w' hF' hb hd
  have e3:=tE hd 0 rfl
  obtain⟨v4_0,e4,h4_1⟩:=tH hd 1 rfl
  exact bD (rk k19 (ar e3 e4)) (i4 _ _ (qt) _ (max k 2) _ (h1.below (aa st.bel hb)) h4_1 (hl.up _ (by omega)) ((az.up (bf (aD (by decide) (by decide)) (aD (by decide) (by decide))) 2 (by decide)).up _ (by omega)) (by omega)) (fun _=>rfl) rfl rfl
 ·intro a' w' hF' hb hd
  have e5:=tE hd 0 rfl
  exact dv0 (av e5 ao ab (aC (dR (c:=decide (0<qc (qt) (((1:Int):Rat)/((3:Int):Rat)))) rfl) (by simp))) rfl rfl rfl
 intro a w3 hF bb hall hne
 replace st:=st.to bb
 replace hF:=aE hall hF 3 rfl rfl
 clear hall hne bb
 refine oE hF 0 rfl rfl fun a hF=>?_
 refine nr ?_
 have bel:=st.bel
 refine rt Tryz.results44 hF 0 rfl ?_
 exact⟨rfl,bel⟩
theorem xW (w:World):iR w 44 #[] 100 awp:=
 ⟨⟨_,Tryz.func44,yC.1,yC.2⟩,fun v q w' hb hv hl=>vN v q 100 w' hv hl (by decide)⟩
theorem kg (w:World):
 Calls Tryz.prog 10 #[] w (aX w (.bool true)):=by
 have st:=St.start w
 refine go0 (nt:=25) Tryz.func10 rfl rfl fun a hF=>?_
 refine wq ?_
 refine oC hF rfl fun a hF=>?_
 refine nq ?_
 refine oV hF (aW (by simp) (fv _)) rfl fun a hF=>?_
 refine ca st hF (rk k20 (aB ao)) (bK (1) _ (by decide) (by decide)) (fun _ _ h=>h) Rq.cl rfl fun vv2 w1 a st hF=>?_
 obtain⟨r4,rfl⟩:=Rq.fo (st.f 0 rfl)
 refine S.call2 st hF (rk k43 (jc (hF.at 1 rfl) (hF.at 0 rfl) ao rfl)) (pY _ _ (0) _ 1 2 21 21 _ _ awp _ (Rq.zero _) (st.f 0 rfl) (gX (by decide)) (aN (aD (by decide) (by decide)) (by omega)) (by omega) (by omega) (by decide) (by omega) ((xW _).to (by omega))) (fun _ _ h=>h) Rq.cl Rq.cl rfl rfl rfl rfl fun vv6 vv7 w5 a st hF=>?_
 obtain⟨r10,rfl⟩:=Rq.fo (st.f 0 rfl)
 obtain⟨r11,rfl⟩:=Rq.fo (st.f 1 rfl)
 refine oM hF 0 rfl rfl fun a hF=>?_
 refine oV hF (a7 (v:= r10.v) (hF.at 0 rfl) rfl) rfl fun a hF=>?_
 refine oV hF (a7 (v:= r11.v) (hF.at 1 rfl) rfl) rfl fun a hF=>?_
 refine S.alloc st hF ag rfl rfl fun g1 w12 a st hF=>?_
 refine S.alloc st hF ag rfl rfl fun g2 w13 a st hF=>?_
 refine so st hF 1 1 3 ag rfl rfl rfl rfl fun w14 a st hF=>?_
 refine so st hF 0 0 2 ag rfl rfl rfl rfl fun w15 a st hF=>?_
 refine ns ?_
 refine eD 16 aJ hF [9,10,11,12,13,14,15,16,17,18,19,20,21,22,23,24] [(Iz r10.v),(Iq (((699050:Int):Rat)/((2097152:Int):Rat))),(Iz (.bool true)),(Iz (.bool true)),(Iz r11.v),(Iq (((699051:Int):Rat)/((2097152:Int):Rat))),(Iz (.bool true)),(Iz (.bool true)),(Iz (.bool true)),(Iz (.int .i64 (kP 2))),(Iz (.bool true)),(Iz (.bool true)),(Iz (.bool true)),(Iz (.int .i64 (kP 5))),(Iz (.bool true)),(Iz (.bool true))] [] (by decide+kernel) rfl rfl trivial ⟨?_,?_,?_,?_,?_,?_,?_,?_,?_,?_,?_,?_,?_,?_,?_,?_,trivial⟩ ?_
 ·exact qL st 1 1 ag rfl rfl rfl rfl rfl
 ·intro a' w' hF' hb hd
  exact dc0 (rk k22 (ar ao ao)) (bZ (699050) (2097152) _ (by decide) (by decide) (by decide) (by decide)) rfl rfl
 ·intro a' w' hF' hb hd
  have e9:=tE hd 0 rfl
  obtain⟨v10_0,e10,h10_1⟩:=tH hd 1 rfl
  exact bD (rk k45 (ar e9 e10)) (kY _ _ _ _ _ ((st.f 0 rfl).below hb) h10_1 zD) (fun _=>rfl) rfl rfl
 ·intro a' w' hF' hb hd
  have e11:=tE hd 0 rfl
  exact dv0 (aY e11) rfl rfl rfl
 ·intro a' w' hF' hb hd
  have e12:=tE hd 0 rfl
  exact dv1 (aq rfl rfl e12 rfl) (aw (hF'.at 0 rfl) (bp ag ((st.bk 0 rfl).below hb) rfl)) rfl rfl
 ·intro a' w' hF' hb hd
  have e12:=tE hd 0 rfl
  exact dc1 (aq rfl rfl e12 rfl) (rk k22 (ar ao ao)) (bZ (699051) (2097152) _ (by decide) (by decide) (by decide) (by decide)) rfl
 ·intro a' w' hF' hb hd
  have e12:=tE hd 3 rfl
  have e13:=tE hd 0 rfl
  obtain⟨v14_0,e14,h14_1⟩:=tH hd 1 rfl
  exact fM (aq rfl rfl e12 rfl) (rk k45 (ar e13 e14)) (kY _ _ _ _ _ ((st.f 1 rfl).below hb) h14_1 z6) (fun _=>rfl) rfl
 ·intro a' w' hF' hb hd
  have e12:=tE hd 0 rfl
  have e15:=tE hd 1 rfl
  exact dv0 (bR e12 e15) rfl rfl rfl
 ·intro a' w' hF' hb hd
  have e16:=tE hd 0 rfl
  exact dv0 (aY e16) rfl rfl rfl
 ·intro a' w' hF' hb hd
  have e17:=tE hd 0 rfl
  exact fM (aq rfl rfl e17 rfl) (rk k36 (aB ao)) (ef 2 _) (fun _=>rfl) rfl
 ·intro a' w' hF' hb hd
  have e17:=tE hd 1 rfl
  have e18:=tE hd 0 rfl
  exact dv1 (aq rfl rfl e17 rfl) (av e18 ao ab (aC (aK (c:=true) (aP (by decide))) (by simp))) rfl rfl
 ·intro a' w' hF' hb hd
  have e17:=tE hd 0 rfl
  have e19:=tE hd 1 rfl
  exact dv0 (bR e17 e19) rfl rfl rfl
 ·intro a' w' hF' hb hd
  have e20:=tE hd 0 rfl
  exact dv0 (aY e20) rfl rfl rfl
 ·intro a' w' hF' hb hd
  have e21:=tE hd 0 rfl
  exact fM (aq rfl rfl e21 rfl) (rk k36 (aB ao)) (ef 5 _) (fun _=>rfl) rfl
 ·intro a' w' hF' hb hd
  have e21:=tE hd 1 rfl
  have e22:=tE hd 0 rfl
  exact dv1 (aq rfl rfl e21 rfl) (av e22 ao ab (aC (aK (c:=true) (aP (by decide))) (by simp))) rfl rfl
 ·intro a' w' hF' hb hd
  have e21:=tE hd 0 rfl
  have e23:=tE hd 1 rfl
  exact dv0 (bR e21 e23) rfl rfl rfl
 intro a w16 hF bb hall hne
 replace st:=st.to bb
 replace hF:=aE hall hF 15 rfl rfl
 clear hall hne bb
 refine oE hF 0 rfl rfl fun a hF=>?_
 refine nr ?_
 have bel:=st.bel
 refine rt Tryz.results10 hF 0 rfl ?_
 exact⟨rfl,bel⟩
end Go.Proofs.YtplngpfpcheofaaGreatDoor
