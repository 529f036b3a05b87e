import Derived.Test.YtgdpkknapcgcbaaGreatDoorKB41
namespace Go.Proofs.YtgdpkknapcgcbaaGreatDoor
open Go.RowKit
set_option maxRecDepth 100000
set_option linter.unusedVariables false
set_option maxHeartbeats 8000000
theorem gh {P:Program} {w:World} {t:TypeId} {y0 y:Int} (h:(if 0<=y0 then y0%1099511627776 else -(-y0%1099511627776))=y):(binOp .rem t (iv y0) (iv 1099511627776)).run P w= .ok (iv y) w:=by
 subst h
 exact fN (by decide)
theorem almanacBad_walk (n xa xb xc xd:Int) (w:World) (hT:a6 w):
 CV 7 #[iv n,.agg #[iv xa,iv xb,iv xc,iv xd]] w (.bool true):=by
 obtain⟨pa,ha⟩:∃z:Int,(if 0<=xa then xa%1099511627776 else -(-xa%1099511627776))=z:=⟨_,rfl⟩
 obtain⟨pc,hc⟩:∃z:Int,(if 0<=xc then xc%1099511627776 else -(-xc%1099511627776))=z:=⟨_,rfl⟩
 have hab:=jM (k:=xa) (n:=1099511627776) (by decide)
 rw[ha] at hab
 have hcb:=jM (k:=xc) (n:=1099511627776) (by decide)
 rw[hc] at hcb
 by_cases hp:plE pa xb pc xd=0
 ·by_cases hd: -3000000<=n
  ·by_cases he:n<=3000000
   ·have st:=St.start w
    refine go2 (nt:=47) Tryz.func7 rfl rfl rfl fun a hF=>wq<|bx st hF 1 rfl rfl fun g3 w1 a st hF=>?_
    refine oC hF rfl fun a hF=>ns<|wq<|cX st hF (rgc k15 ic) (dI _ (hT.below st.bel)) rfl fun w2 a st hF=>oV hF (d9 hF.o (cZ _ false rfl)) rfl fun a hF=>E.nil<|wp_cond_false hF.o<|wp_skip<|E.norm<|wq<|oV hF (ao (hF.at 3 rfl) (dJ (p:=0) rfl)) rfl fun a hF=>oV hF (aq hF.o (bL (v:= iv xa) (st.bk 0 rfl) rfl)) rfl fun a hF=>oV hF (ar hF.o ah ab (gh ha)) rfl fun a hF=>oV hF (ao (hF.at 6 rfl) (dM (p:=2) rfl)) rfl fun a hF=>oV hF (aq hF.o (bL (v:= iv xc) (st.bk 0 rfl) rfl)) rfl fun a hF=>oV hF (ar hF.o ah ab (gh hc)) rfl fun a hF=>oV hF (ao (hF.at 9 rfl) (dJ (p:=0) rfl)) rfl fun a hF=>?_
    refine S.stooI (o:=0) (vs:=[iv pa]) (ws:=[iv pa,iv xb,iv xc,iv xd]) st hF 0 rfl hF.o (hF.at 4 rfl) rfl b7 rfl rfl rfl rfl fun w3 a st hF=>?_
    refine oV hF (ao (hF.at 10 rfl) (dM (p:=2) rfl)) rfl fun a hF=>?_
    refine S.stooI (o:=2) (vs:=[iv pc]) (ws:=[iv pa,iv xb,iv pc,iv xd]) st hF 0 rfl hF.o hF.q rfl b7 rfl rfl rfl rfl fun w4 a st hF=>?_
    refine ns<|wq<|oL hF st 11 0 bj rfl rfl rfl rfl fun a hF=>cX st hF (rgc k37 (aB hF.o)) (eg pa xb pc xd _) rfl fun w5 a st hF=>oT hF 0 (aJ (c:=true) (aD (by omega))) rfl rfl fun a hF=>oM hF 0 rfl rfl fun a hF=>og hF (aI (hF.at 16 rfl)) 0 rfl rfl rfl fun a hF=>og hF (ar hF.o ah ab (aM (fM (c:=true) (aD (by omega))) (by simp))) 1 rfl rfl rfl fun a hF=>oV hF (aO hF.q hF.o) rfl fun a hF=>oM hF 0 rfl rfl fun a hF=>og hF (aI (hF.at 20 rfl)) 0 rfl rfl rfl fun a hF=>?_
    refine og hF (ar hF.o ah ab (aM (bA (c:=true) (aD (by omega))) (by simp))) 1 rfl rfl rfl fun a hF=>oV hF (aO hF.q hF.o) rfl fun a hF=>E.nil<|wp_cond_true hF.o<|wq ?_
    refine oS hF (bf ah) rfl fun a hF=>nr ?_
    have bel:=st.bel
    refine rt Tryz.results7 hF 0 rfl ?_
    exact⟨rfl,bel⟩
   ·have st:=St.start w
    refine go2 (nt:=47) Tryz.func7 rfl rfl rfl fun a hF=>wq<|bx st hF 1 rfl rfl fun g3 w1 a st hF=>?_
    refine oC hF rfl fun a hF=>ns<|wq<|cX st hF (rgc k15 ic) (dI _ (hT.below st.bel)) rfl fun w2 a st hF=>oV hF (d9 hF.o (cZ _ false rfl)) rfl fun a hF=>E.nil<|wp_cond_false hF.o<|wp_skip<|E.norm<|wq<|oV hF (ao (hF.at 3 rfl) (dJ (p:=0) rfl)) rfl fun a hF=>oV hF (aq hF.o (bL (v:= iv xa) (st.bk 0 rfl) rfl)) rfl fun a hF=>oV hF (ar hF.o ah ab (gh ha)) rfl fun a hF=>oV hF (ao (hF.at 6 rfl) (dM (p:=2) rfl)) rfl fun a hF=>oV hF (aq hF.o (bL (v:= iv xc) (st.bk 0 rfl) rfl)) rfl fun a hF=>oV hF (ar hF.o ah ab (gh hc)) rfl fun a hF=>oV hF (ao (hF.at 9 rfl) (dJ (p:=0) rfl)) rfl fun a hF=>?_
    refine S.stooI (o:=0) (vs:=[iv pa]) (ws:=[iv pa,iv xb,iv xc,iv xd]) st hF 0 rfl hF.o (hF.at 4 rfl) rfl b7 rfl rfl rfl rfl fun w3 a st hF=>?_
    refine oV hF (ao (hF.at 10 rfl) (dM (p:=2) rfl)) rfl fun a hF=>?_
    refine S.stooI (o:=2) (vs:=[iv pc]) (ws:=[iv pa,iv xb,iv pc,iv xd]) st hF 0 rfl hF.o hF.q rfl b7 rfl rfl rfl rfl fun w4 a st hF=>?_
    refine ns<|wq<|oL hF st 11 0 bj rfl rfl rfl rfl fun a hF=>cX st hF (rgc k37 (aB hF.o)) (eg pa xb pc xd _) rfl fun w5 a st hF=>oT hF 0 (aJ (c:=true) (aD (by omega))) rfl rfl fun a hF=>oM hF 0 rfl rfl fun a hF=>og hF (aI (hF.at 16 rfl)) 0 rfl rfl rfl fun a hF=>og hF (ar hF.o ah ab (aM (fM (c:=true) (aD (by omega))) (by simp))) 1 rfl rfl rfl fun a hF=>oV hF (aO hF.q hF.o) rfl fun a hF=>oM hF 0 rfl rfl fun a hF=>og hF (aI (hF.at 20 rfl)) 0 rfl rfl rfl fun a hF=>?_
    refine og hF (ar hF.o ah ab (aM (bA (c:=false) (aK (by omega))) (by simp))) 1 rfl rfl rfl fun a hF=>oV hF (aO hF.q hF.o) rfl fun a hF=>E.nil<|wp_cond_false hF.o<|wp_skip<|E.norm<|wq<|oM hF 23 rfl rfl fun a hF=>oL hF st 23 0 bj rfl rfl rfl rfl fun a hF=>cX st hF (rgc k18 (aA hF.p hF.o)) (pU n pa xb pc xd _ (by omega) (by omega)) rfl fun w6 a st hF=>oM hF 0 rfl rfl fun a hF=>oV hF (aC (v:= .agg #[iv 0,iv 0,.bool false,.slice none 0 0,.slice none 0 0,.bool false,.slice none 0 0,.slice none 0 0,.bool false,.slice none 0 0,.slice none 0 0,.slice none 0 0]) hF.o rfl) rfl fun a hF=>oV hF (aC (v:= iv 2) hF.p rfl) rfl fun a hF=>?_
    refine S.new st hF 1 rfl bz rfl rfl rfl rfl rfl fun g5 w7 a st hF=>?_
    refine oA hF 1 rfl rfl fun a hF=>nq<|oM hF 0 rfl rfl fun a hF=>oT hF 0 (aJ (c:=true) (by decide)) rfl rfl fun a hF=>oM hF 0 rfl rfl fun a hF=>og hF (ao (hF.at 4 rfl) (gN (p:=11) rfl)) 0 rfl rfl rfl fun a hF=>og hF (aq hF.o (gH (v:= .slice none 0 0) (st.bk 0 rfl) rfl)) 1 rfl rfl rfl fun a hF=>og hF (aR (aB hF.o) cf) 2 rfl rfl rfl fun a hF=>og hF (ar hF.o ah ab (aM (aJ (c:=true) (aD (by decide))) (by simp))) 3 rfl rfl rfl fun a hF=>oV hF (aO (hF.at 4 rfl) hF.o) rfl fun a hF=>oM hF 0 rfl rfl fun a hF=>og hF (ao (hF.at 10 rfl) (mV (p:=0) rfl)) 0 rfl rfl rfl fun a hF=>og hF (aq hF.o (bL (v:= iv 0) (st.bk 0 rfl) rfl)) 1 rfl rfl rfl fun a hF=>og hF (ar hF.o ah ab (aM (aJ (c:=true) (by decide)) (by simp))) 2 rfl rfl rfl fun a hF=>oV hF (aO (hF.at 3 rfl) hF.o) rfl fun a hF=>oE hF 0 rfl rfl fun a hF=>?_
    refine nr ?_
    have bel:=st.bel
    refine rt Tryz.results7 hF 0 rfl ?_
    exact⟨rfl,bel⟩
  ·have st:=St.start w
   refine go2 (nt:=47) Tryz.func7 rfl rfl rfl fun a hF=>wq<|bx st hF 1 rfl rfl fun g3 w1 a st hF=>?_
   refine oC hF rfl fun a hF=>ns<|wq<|cX st hF (rgc k15 ic) (dI _ (hT.below st.bel)) rfl fun w2 a st hF=>oV hF (d9 hF.o (cZ _ false rfl)) rfl fun a hF=>E.nil<|wp_cond_false hF.o<|wp_skip<|E.norm<|wq<|oV hF (ao (hF.at 3 rfl) (dJ (p:=0) rfl)) rfl fun a hF=>oV hF (aq hF.o (bL (v:= iv xa) (st.bk 0 rfl) rfl)) rfl fun a hF=>oV hF (ar hF.o ah ab (gh ha)) rfl fun a hF=>oV hF (ao (hF.at 6 rfl) (dM (p:=2) rfl)) rfl fun a hF=>oV hF (aq hF.o (bL (v:= iv xc) (st.bk 0 rfl) rfl)) rfl fun a hF=>oV hF (ar hF.o ah ab (gh hc)) rfl fun a hF=>oV hF (ao (hF.at 9 rfl) (dJ (p:=0) rfl)) rfl fun a hF=>?_
   refine S.stooI (o:=0) (vs:=[iv pa]) (ws:=[iv pa,iv xb,iv xc,iv xd]) st hF 0 rfl hF.o (hF.at 4 rfl) rfl b7 rfl rfl rfl rfl fun w3 a st hF=>?_
   refine oV hF (ao (hF.at 10 rfl) (dM (p:=2) rfl)) rfl fun a hF=>?_
   refine S.stooI (o:=2) (vs:=[iv pc]) (ws:=[iv pa,iv xb,iv pc,iv xd]) st hF 0 rfl hF.o hF.q rfl b7 rfl rfl rfl rfl fun w4 a st hF=>?_
   refine ns<|wq<|oL hF st 11 0 bj rfl rfl rfl rfl fun a hF=>cX st hF (rgc k37 (aB hF.o)) (eg pa xb pc xd _) rfl fun w5 a st hF=>oT hF 0 (aJ (c:=true) (aD (by omega))) rfl rfl fun a hF=>oM hF 0 rfl rfl fun a hF=>og hF (aI (hF.at 16 rfl)) 0 rfl rfl rfl fun a hF=>og hF (ar hF.o ah ab (aM (fM (c:=false) (aK (by omega))) (by simp))) 1 rfl rfl rfl fun a hF=>oV hF (aO hF.q hF.o) rfl fun a hF=>oM hF 0 rfl rfl fun a hF=>nu hF 0 rfl rfl rfl fun a hF=>?_
   refine nu hF 1 rfl rfl rfl fun a hF=>oV hF (aZ hF.q ah) rfl fun a hF=>E.nil<|wp_cond_false hF.o<|wp_skip<|E.norm<|wq<|oM hF 23 rfl rfl fun a hF=>oL hF st 23 0 bj rfl rfl rfl rfl fun a hF=>cX st hF (rgc k18 (aA hF.p hF.o)) (pU n pa xb pc xd _ (by omega) (by omega)) rfl fun w6 a st hF=>oM hF 0 rfl rfl fun a hF=>oV hF (aC (v:= .agg #[iv 0,iv 0,.bool false,.slice none 0 0,.slice none 0 0,.bool false,.slice none 0 0,.slice none 0 0,.bool false,.slice none 0 0,.slice none 0 0,.slice none 0 0]) hF.o rfl) rfl fun a hF=>oV hF (aC (v:= iv 2) hF.p rfl) rfl fun a hF=>?_
   refine S.new st hF 1 rfl bz rfl rfl rfl rfl rfl fun g5 w7 a st hF=>?_
   refine oA hF 1 rfl rfl fun a hF=>nq<|oM hF 0 rfl rfl fun a hF=>oT hF 0 (aJ (c:=true) (by decide)) rfl rfl fun a hF=>oM hF 0 rfl rfl fun a hF=>og hF (ao (hF.at 4 rfl) (gN (p:=11) rfl)) 0 rfl rfl rfl fun a hF=>og hF (aq hF.o (gH (v:= .slice none 0 0) (st.bk 0 rfl) rfl)) 1 rfl rfl rfl fun a hF=>og hF (aR (aB hF.o) cf) 2 rfl rfl rfl fun a hF=>og hF (ar hF.o ah ab (aM (aJ (c:=true) (aD (by decide))) (by simp))) 3 rfl rfl rfl fun a hF=>oV hF (aO (hF.at 4 rfl) hF.o) rfl fun a hF=>oM hF 0 rfl rfl fun a hF=>og hF (ao (hF.at 10 rfl) (mV (p:=0) rfl)) 0 rfl rfl rfl fun a hF=>og hF (aq hF.o (bL (v:= iv 0) (st.bk 0 rfl) rfl)) 1 rfl rfl rfl fun a hF=>og hF (ar hF.o ah ab (aM (aJ (c:=true) (by decide)) (by simp))) 2 rfl rfl rfl fun a hF=>oV hF (aO (hF.at 3 rfl) hF.o) rfl fun a hF=>oE hF 0 rfl rfl fun a hF=>?_
   refine nr ?_
   have bel:=st.bel
   refine rt Tryz.results7 hF 0 rfl ?_
   exact⟨rfl,bel⟩
 ·have h2:=Gb pa xb pc xd
  refine gs2 (nt:=47) Tryz.func7 rfl rfl rfl fun a st hF=>wq<|bx st hF 1 rfl rfl fun g3 w1 a st hF=>?_
  refine oC hF rfl fun a hF=>ns<|wq<|cX st hF (rgc k15 ic) (dI _ (hT.below st.bel)) rfl fun w2 a st hF=>oV hF (d9 hF.o (cZ _ false rfl)) rfl fun a hF=>E.nil<|wp_cond_false hF.o<|wp_skip<|E.norm<|wq<|oV hF (ao (hF.at 3 rfl) (dJ (p:=0) rfl)) rfl fun a hF=>oV hF (aq hF.o (bL (v:= iv xa) (st.bk 0 rfl) rfl)) rfl fun a hF=>oV hF (ar hF.o ah ab (gh ha)) rfl fun a hF=>oV hF (ao (hF.at 6 rfl) (dM (p:=2) rfl)) rfl fun a hF=>oV hF (aq hF.o (bL (v:= iv xc) (st.bk 0 rfl) rfl)) rfl fun a hF=>oV hF (ar hF.o ah ab (gh hc)) rfl fun a hF=>oV hF (ao (hF.at 9 rfl) (dJ (p:=0) rfl)) rfl fun a hF=>?_
  refine S.stooI (o:=0) (vs:=[iv pa]) (ws:=[iv pa,iv xb,iv xc,iv xd]) st hF 0 rfl hF.o (hF.at 4 rfl) rfl b7 rfl rfl rfl rfl fun w3 a st hF=>?_
  refine oV hF (ao (hF.at 10 rfl) (dM (p:=2) rfl)) rfl fun a hF=>?_
  refine S.stooI (o:=2) (vs:=[iv pc]) (ws:=[iv pa,iv xb,iv pc,iv xd]) st hF 0 rfl hF.o hF.q rfl b7 rfl rfl rfl rfl fun w4 a st hF=>?_
  refine ns<|wq<|oL hF st 11 0 bj rfl rfl rfl rfl fun a hF=>cX st hF (rgc k37 (aB hF.o)) (eg pa xb pc xd _) rfl fun w5 a st hF=>oT hF 0 (aJ (c:=false) (aK (by omega))) rfl rfl fun a hF=>oM hF 0 rfl rfl fun a hF=>nu hF 0 rfl rfl rfl fun a hF=>nu hF 1 rfl rfl rfl fun a hF=>oV hF (aZ hF.q ah) rfl fun a hF=>oM hF 0 rfl rfl fun a hF=>nu hF 0 rfl rfl rfl fun a hF=>?_
  refine nu hF 1 rfl rfl rfl fun a hF=>oV hF (aZ hF.q ah) rfl fun a hF=>E.nil<|wp_cond_false hF.o<|wp_skip<|E.norm<|wq<|oM hF 23 rfl rfl fun a hF=>oL hF st 23 0 bj rfl rfl rfl rfl fun a hF=>cX st hF (rgc k18 (aA hF.p hF.o)) (pJ n pa xb pc xd _ (by omega)) rfl fun w6 a st hF=>oM hF 0 rfl rfl fun a hF=>oV hF (aC (v:= .agg #[iv 0,iv 0,.bool false,.slice none 0 0,.slice none 0 0,.bool false,.slice none 0 0,.slice none 0 0,.bool false,.slice none 0 0,.slice none 0 0,.slice none 0 0]) hF.o rfl) rfl fun a hF=>oV hF (aC (v:= iv (plE pa xb pc xd)) hF.p rfl) rfl fun a hF=>?_
  refine S.new st hF 1 rfl bz rfl rfl rfl rfl rfl fun g5 w7 a st hF=>?_
  refine oA hF 1 rfl rfl fun a hF=>nq<|oM hF 0 rfl rfl fun a hF=>oT hF 0 (aJ (c:=true) (aD (by omega))) rfl rfl fun a hF=>oM hF 0 rfl rfl fun a hF=>og hF (ao (hF.at 4 rfl) (gN (p:=11) rfl)) 0 rfl rfl rfl fun a hF=>og hF (aq hF.o (gH (v:= .slice none 0 0) (st.bk 0 rfl) rfl)) 1 rfl rfl rfl fun a hF=>og hF (aR (aB hF.o) cf) 2 rfl rfl rfl fun a hF=>og hF (ar hF.o ah ab (aM (aJ (c:=true) (aD (by decide))) (by simp))) 3 rfl rfl rfl fun a hF=>oV hF (aO (hF.at 4 rfl) hF.o) rfl fun a hF=>oM hF 0 rfl rfl fun a hF=>og hF (ao (hF.at 10 rfl) (mV (p:=0) rfl)) 0 rfl rfl rfl fun a hF=>og hF (aq hF.o (bL (v:= iv 0) (st.bk 0 rfl) rfl)) 1 rfl rfl rfl fun a hF=>og hF (ar hF.o ah ab (aM (aJ (c:=true) (by decide)) (by simp))) 2 rfl rfl rfl fun a hF=>oV hF (aO (hF.at 3 rfl) hF.o) rfl fun a hF=>oE hF 0 rfl rfl fun a hF=>?_
  refine nr ?_
  have bel:=st.bel
  refine rt Tryz.results7 hF 0 rfl ?_
  exact⟨rfl,bel⟩
end Go.Proofs.YtgdpkknapcgcbaaGreatDoor
