import Derived.Test.YtgdpkknapcgcbaaGreatDoorKB28
namespace Go.Proofs.YtgdpkknapcgcbaaGreatDoor
open Go.RowKit
set_option maxRecDepth 100000
set_option linter.unusedVariables false
set_option maxHeartbeats 8000000
theorem se (n d:Int) (w:World):
 CV 89 #[iv n,iv d,iv 60] w (.bool (wiB 60 n d)):=by
 refine gs3 (nt:=28) Tryz.func89 rfl rfl rfl fun a st hF=>wq ?_
 refine oC hF rfl fun a hF=>nq<|oM hF 2 rfl rfl fun a hF=>?_
 by_cases hc1:1<=d
 ·refine oV hF (ar ah hF.o ab (aM (bA (c:=true) (aD hc1)) (by simp))) rfl fun a hF=>oM hF 0 rfl rfl fun a hF=>og hF (aI (hF.at 5 rfl)) 0 rfl rfl rfl fun a hF=>?_
  by_cases hc2:d<=3600
  ·refine og hF (ar hF.o ah ab (aM (bA (c:=true) (aD hc2)) (by simp))) 1 rfl rfl rfl fun a hF=>oV hF (aO hF.q hF.o) rfl fun a hF=>oM hF 0 rfl rfl fun a hF=>og hF (aI (hF.at 10 rfl)) 0 rfl rfl rfl fun a hF=>og hF (d9 hF.o (xH (by omega) (by omega))) 1 rfl rfl rfl fun a hF=>og hF (aI (hF.at 11 rfl)) 2 rfl rfl rfl fun a hF=>og hF (ar hF.p hF.o ab (gF (by omega) (by omega))) 3 rfl rfl rfl fun a hF=>og hF (aI (hF.at 12 rfl)) 4 rfl rfl rfl fun a hF=>?_
   by_cases hc3:(-60)*d<=n
   ·refine og hF (ar hF.p hF.o ab (aM (bA (c:=true) (aD hc3)) (by simp))) 5 rfl rfl rfl fun a hF=>oV hF (aO (hF.at 6 rfl) hF.o) rfl fun a hF=>oM hF 0 rfl rfl fun a hF=>og hF (aI (hF.at 16 rfl)) 0 rfl rfl rfl fun a hF=>og hF (aI (hF.at 19 rfl)) 1 rfl rfl rfl fun a hF=>og hF (aI (hF.at 19 rfl)) 2 rfl rfl rfl fun a hF=>og hF (ar hF.p hF.o ab (gF (by omega) (by omega))) 3 rfl rfl rfl fun a hF=>?_
    by_cases hc4:n<=60*d
    ·refine og hF (ar (hF.at 3 rfl) hF.o ab (aM (bA (c:=true) (aD hc4)) (by simp))) 4 rfl rfl rfl fun a hF=>oV hF (aO (hF.at 5 rfl) hF.o) rfl fun a hF=>oE hF 0 rfl rfl fun a hF=>nr ?_
     have bel:=st.bel
     refine rt Tryz.results89 hF 0 rfl ?_
     refine⟨eN ?_,bel⟩
     unfold wiB
     first|exact(decide_eq_true (by omega)).symm |exact(decide_eq_false (by omega)).symm |exact decide_eq_decide.2 (by omega)
    ·refine og hF (ar (hF.at 3 rfl) hF.o ab (aM (bA (c:=false) (aK hc4)) (by simp))) 4 rfl rfl rfl fun a hF=>oV hF (aO (hF.at 5 rfl) hF.o) rfl fun a hF=>oE hF 0 rfl rfl fun a hF=>nr ?_
     have bel:=st.bel
     refine rt Tryz.results89 hF 0 rfl ?_
     refine⟨eN ?_,bel⟩
     unfold wiB
     first|exact(decide_eq_true (by omega)).symm |exact(decide_eq_false (by omega)).symm |exact decide_eq_decide.2 (by omega)
   ·refine og hF (ar hF.p hF.o ab (aM (bA (c:=false) (aK hc3)) (by simp))) 5 rfl rfl rfl fun a hF=>oV hF (aO (hF.at 6 rfl) hF.o) rfl fun a hF=>oM hF 0 rfl rfl fun a hF=>nu hF 0 rfl rfl rfl fun a hF=>nu hF 1 rfl rfl rfl fun a hF=>nu hF 2 rfl rfl rfl fun a hF=>nu hF 3 rfl rfl rfl fun a hF=>?_
    refine nu hF 4 rfl rfl rfl fun a hF=>oV hF (aZ (hF.at 5 rfl) ah) rfl fun a hF=>oE hF 0 rfl rfl fun a hF=>nr ?_
    have bel:=st.bel
    refine rt Tryz.results89 hF 0 rfl ?_
    refine⟨eN ?_,bel⟩
    unfold wiB
    first|exact(decide_eq_true (by omega)).symm |exact(decide_eq_false (by omega)).symm |exact decide_eq_decide.2 (by omega)
  ·refine og hF (ar hF.o ah ab (aM (bA (c:=false) (aK hc2)) (by simp))) 1 rfl rfl rfl fun a hF=>oV hF (aO hF.q hF.o) rfl fun a hF=>oM hF 0 rfl rfl fun a hF=>nu hF 0 rfl rfl rfl fun a hF=>nu hF 1 rfl rfl rfl fun a hF=>nu hF 2 rfl rfl rfl fun a hF=>nu hF 3 rfl rfl rfl fun a hF=>nu hF 4 rfl rfl rfl fun a hF=>nu hF 5 rfl rfl rfl fun a hF=>oV hF (aZ (hF.at 6 rfl) ah) rfl fun a hF=>oM hF 0 rfl rfl fun a hF=>nu hF 0 rfl rfl rfl fun a hF=>nu hF 1 rfl rfl rfl fun a hF=>nu hF 2 rfl rfl rfl fun a hF=>?_
   refine nu hF 3 rfl rfl rfl fun a hF=>nu hF 4 rfl rfl rfl fun a hF=>oV hF (aZ (hF.at 5 rfl) ah) rfl fun a hF=>oE hF 0 rfl rfl fun a hF=>nr ?_
   have bel:=st.bel
   refine rt Tryz.results89 hF 0 rfl ?_
   refine⟨eN ?_,bel⟩
   unfold wiB
   first|exact(decide_eq_true (by omega)).symm |exact(decide_eq_false (by omega)).symm |exact decide_eq_decide.2 (by omega)
 ·refine oV hF (ar ah hF.o ab (aM (bA (c:=false) (aK hc1)) (by simp))) rfl fun a hF=>oM hF 0 rfl rfl fun a hF=>nu hF 0 rfl rfl rfl fun a hF=>nu hF 1 rfl rfl rfl fun a hF=>oV hF (aZ hF.q ah) rfl fun a hF=>oM hF 0 rfl rfl fun a hF=>nu hF 0 rfl rfl rfl fun a hF=>nu hF 1 rfl rfl rfl fun a hF=>nu hF 2 rfl rfl rfl fun a hF=>nu hF 3 rfl rfl rfl fun a hF=>nu hF 4 rfl rfl rfl fun a hF=>nu hF 5 rfl rfl rfl fun a hF=>oV hF (aZ (hF.at 6 rfl) ah) rfl fun a hF=>oM hF 0 rfl rfl fun a hF=>?_
  refine nu hF 0 rfl rfl rfl fun a hF=>nu hF 1 rfl rfl rfl fun a hF=>nu hF 2 rfl rfl rfl fun a hF=>nu hF 3 rfl rfl rfl fun a hF=>nu hF 4 rfl rfl rfl fun a hF=>oV hF (aZ (hF.at 5 rfl) ah) rfl fun a hF=>oE hF 0 rfl rfl fun a hF=>nr ?_
  have bel:=st.bel
  refine rt Tryz.results89 hF 0 rfl ?_
  refine⟨eN ?_,bel⟩
  unfold wiB
  first|exact(decide_eq_true (by omega)).symm |exact(decide_eq_false (by omega)).symm |exact decide_eq_decide.2 (by omega)
theorem p8 (n d:Int) (w:World):
 CV 89 #[iv n,iv d,iv 180] w (.bool (wiB 180 n d)):=by
 refine gs3 (nt:=28) Tryz.func89 rfl rfl rfl fun a st hF=>wq ?_
 refine oC hF rfl fun a hF=>nq<|oM hF 2 rfl rfl fun a hF=>?_
 by_cases hc1:1<=d
 ·refine oV hF (ar ah hF.o ab (aM (bA (c:=true) (aD hc1)) (by simp))) rfl fun a hF=>oM hF 0 rfl rfl fun a hF=>og hF (aI (hF.at 5 rfl)) 0 rfl rfl rfl fun a hF=>?_
  by_cases hc2:d<=3600
  ·refine og hF (ar hF.o ah ab (aM (bA (c:=true) (aD hc2)) (by simp))) 1 rfl rfl rfl fun a hF=>oV hF (aO hF.q hF.o) rfl fun a hF=>oM hF 0 rfl rfl fun a hF=>og hF (aI (hF.at 10 rfl)) 0 rfl rfl rfl fun a hF=>og hF (d9 hF.o (xH (by omega) (by omega))) 1 rfl rfl rfl fun a hF=>og hF (aI (hF.at 11 rfl)) 2 rfl rfl rfl fun a hF=>og hF (ar hF.p hF.o ab (gF (by omega) (by omega))) 3 rfl rfl rfl fun a hF=>og hF (aI (hF.at 12 rfl)) 4 rfl rfl rfl fun a hF=>?_
   by_cases hc3:(-180)*d<=n
   ·refine og hF (ar hF.p hF.o ab (aM (bA (c:=true) (aD hc3)) (by simp))) 5 rfl rfl rfl fun a hF=>oV hF (aO (hF.at 6 rfl) hF.o) rfl fun a hF=>oM hF 0 rfl rfl fun a hF=>og hF (aI (hF.at 16 rfl)) 0 rfl rfl rfl fun a hF=>og hF (aI (hF.at 19 rfl)) 1 rfl rfl rfl fun a hF=>og hF (aI (hF.at 19 rfl)) 2 rfl rfl rfl fun a hF=>og hF (ar hF.p hF.o ab (gF (by omega) (by omega))) 3 rfl rfl rfl fun a hF=>?_
    by_cases hc4:n<=180*d
    ·refine og hF (ar (hF.at 3 rfl) hF.o ab (aM (bA (c:=true) (aD hc4)) (by simp))) 4 rfl rfl rfl fun a hF=>oV hF (aO (hF.at 5 rfl) hF.o) rfl fun a hF=>oE hF 0 rfl rfl fun a hF=>nr ?_
     have bel:=st.bel
     refine rt Tryz.results89 hF 0 rfl ?_
     refine⟨eN ?_,bel⟩
     unfold wiB
     first|exact(decide_eq_true (by omega)).symm |exact(decide_eq_false (by omega)).symm |exact decide_eq_decide.2 (by omega)
    ·refine og hF (ar (hF.at 3 rfl) hF.o ab (aM (bA (c:=false) (aK hc4)) (by simp))) 4 rfl rfl rfl fun a hF=>oV hF (aO (hF.at 5 rfl) hF.o) rfl fun a hF=>oE hF 0 rfl rfl fun a hF=>nr ?_
     have bel:=st.bel
     refine rt Tryz.results89 hF 0 rfl ?_
     refine⟨eN ?_,bel⟩
     unfold wiB
     first|exact(decide_eq_true (by omega)).symm |exact(decide_eq_false (by omega)).symm |exact decide_eq_decide.2 (by omega)
   ·refine og hF (ar hF.p hF.o ab (aM (bA (c:=false) (aK hc3)) (by simp))) 5 rfl rfl rfl fun a hF=>oV hF (aO (hF.at 6 rfl) hF.o) rfl fun a hF=>oM hF 0 rfl rfl fun a hF=>nu hF 0 rfl rfl rfl fun a hF=>nu hF 1 rfl rfl rfl fun a hF=>nu hF 2 rfl rfl rfl fun a hF=>nu hF 3 rfl rfl rfl fun a hF=>?_
    refine nu hF 4 rfl rfl rfl fun a hF=>oV hF (aZ (hF.at 5 rfl) ah) rfl fun a hF=>oE hF 0 rfl rfl fun a hF=>nr ?_
    have bel:=st.bel
    refine rt Tryz.results89 hF 0 rfl ?_
    refine⟨eN ?_,bel⟩
    unfold wiB
    first|exact(decide_eq_true (by omega)).symm |exact(decide_eq_false (by omega)).symm |exact decide_eq_decide.2 (by omega)
  ·refine og hF (ar hF.o ah ab (aM (bA (c:=false) (aK hc2)) (by simp))) 1 rfl rfl rfl fun a hF=>oV hF (aO hF.q hF.o) rfl fun a hF=>oM hF 0 rfl rfl fun a hF=>nu hF 0 rfl rfl rfl fun a hF=>nu hF 1 rfl rfl rfl fun a hF=>nu hF 2 rfl rfl rfl fun a hF=>nu hF 3 rfl rfl rfl fun a hF=>nu hF 4 rfl rfl rfl fun a hF=>nu hF 5 rfl rfl rfl fun a hF=>oV hF (aZ (hF.at 6 rfl) ah) rfl fun a hF=>oM hF 0 rfl rfl fun a hF=>nu hF 0 rfl rfl rfl fun a hF=>nu hF 1 rfl rfl rfl fun a hF=>nu hF 2 rfl rfl rfl fun a hF=>?_
   refine nu hF 3 rfl rfl rfl fun a hF=>nu hF 4 rfl rfl rfl fun a hF=>oV hF (aZ (hF.at 5 rfl) ah) rfl fun a hF=>oE hF 0 rfl rfl fun a hF=>nr ?_
   have bel:=st.bel
   refine rt Tryz.results89 hF 0 rfl ?_
   refine⟨eN ?_,bel⟩
   unfold wiB
   first|exact(decide_eq_true (by omega)).symm |exact(decide_eq_false (by omega)).symm |exact decide_eq_decide.2 (by omega)
 ·refine oV hF (ar ah hF.o ab (aM (bA (c:=false) (aK hc1)) (by simp))) rfl fun a hF=>oM hF 0 rfl rfl fun a hF=>nu hF 0 rfl rfl rfl fun a hF=>nu hF 1 rfl rfl rfl fun a hF=>oV hF (aZ hF.q ah) rfl fun a hF=>oM hF 0 rfl rfl fun a hF=>nu hF 0 rfl rfl rfl fun a hF=>nu hF 1 rfl rfl rfl fun a hF=>nu hF 2 rfl rfl rfl fun a hF=>nu hF 3 rfl rfl rfl fun a hF=>nu hF 4 rfl rfl rfl fun a hF=>nu hF 5 rfl rfl rfl fun a hF=>oV hF (aZ (hF.at 6 rfl) ah) rfl fun a hF=>oM hF 0 rfl rfl fun a hF=>?_
  refine nu hF 0 rfl rfl rfl fun a hF=>nu hF 1 rfl rfl rfl fun a hF=>nu hF 2 rfl rfl rfl fun a hF=>nu hF 3 rfl rfl rfl fun a hF=>nu hF 4 rfl rfl rfl fun a hF=>oV hF (aZ (hF.at 5 rfl) ah) rfl fun a hF=>oE hF 0 rfl rfl fun a hF=>nr ?_
  have bel:=st.bel
  refine rt Tryz.results89 hF 0 rfl ?_
  refine⟨eN ?_,bel⟩
  unfold wiB
  first|exact(decide_eq_true (by omega)).symm |exact(decide_eq_false (by omega)).symm |exact decide_eq_decide.2 (by omega)
theorem eg (xa xb xc xd:Int) (w:World):
 CV 37 #[.agg #[iv xa,iv xb,iv xc,iv xd]] w (iv (plE xa xb xc xd)):=by
 refine gs1 (nt:=17) Tryz.func37 rfl rfl rfl fun a st hF=>wq<|bx st hF 0 rfl rfl fun g1 w1 a st hF=>?_
 refine oC hF rfl fun a hF=>ns<|wq<|oV hF (ao hF.p (dJ (p:=0) rfl)) rfl fun a hF=>oV hF (aq hF.o (bL (v:= iv xa) (st.bk 0 rfl) rfl)) rfl fun a hF=>oV hF (ao (hF.at 3 rfl) (qy (p:=1) rfl)) rfl fun a hF=>oV hF (aq hF.o (bL (v:= iv xb) (st.bk 0 rfl) rfl)) rfl fun a hF=>cX st hF (rk CJ (vt hF.q hF.o ah)) (se xa xb _) rfl fun w2 a st hF=>?_
 by_cases hc3:wiB 60 xa xb=true
 ·refine oV hF (d9 (Eq.trans hF.o (congrArg Value.bool hc3)) (cZ _ false rfl)) rfl fun a hF=>oM hF 0 rfl rfl fun a hF=>og hF (ao (hF.at 8 rfl) (dM (p:=2) rfl)) 0 rfl rfl rfl fun a hF=>og hF (aq hF.o (bL (v:= iv xc) (st.bk 0 rfl) rfl)) 1 rfl rfl rfl fun a hF=>og hF (ao (hF.at 10 rfl) (qZ (p:=3) rfl)) 2 rfl rfl rfl fun a hF=>og hF (aq hF.o (bL (v:= iv xd) (st.bk 0 rfl) rfl)) 3 rfl rfl rfl fun a hF=>?_
  refine S.callxg st hF (az rfl rfl (hF.at 4 rfl) rfl) (rk CJ (vt hF.q hF.o ah)) (p8 xc xd _) rfl rfl rfl fun w4 a st hF=>?_
  by_cases hc5:wiB 180 xc xd=true
  ·refine og hF (d9 (Eq.trans hF.o (congrArg Value.bool hc5)) (cZ _ false rfl)) 5 rfl rfl rfl fun a hF=>oV hF (aZ (hF.at 6 rfl) hF.o) rfl fun a hF=>E.nil<|wp_cond_false hF.o<|wp_skip<|E.norm<|wq ?_
   refine oS hF (bf ah) rfl fun a hF=>nr ?_
   have bel:=st.bel
   refine rt Tryz.results37 hF 0 rfl ?_
   refine⟨bS ?_,bel⟩
   unfold plE
   rw[if_pos ⟨by assumption,by assumption⟩]
  ·refine og hF (d9 (Eq.trans hF.o (congrArg Value.bool (eq_false_of_ne_true hc5))) (cZ _ true rfl)) 5 rfl rfl rfl fun a hF=>oV hF (aZ (hF.at 6 rfl) hF.o) rfl fun a hF=>E.nil<|wp_cond_true hF.o<|wq ?_
   refine oS hF (bf ah) rfl fun a hF=>nr ?_
   have bel:=st.bel
   refine rt Tryz.results37 hF 0 rfl ?_
   refine⟨bS ?_,bel⟩
   unfold plE
   rw[if_neg (by rintro⟨e1,e2⟩;simp_all)]
 ·refine oV hF (d9 (Eq.trans hF.o (congrArg Value.bool (eq_false_of_ne_true hc3))) (cZ _ true rfl)) rfl fun a hF=>oM hF 0 rfl rfl fun a hF=>nu hF 0 rfl rfl rfl fun a hF=>nu hF 1 rfl rfl rfl fun a hF=>nu hF 2 rfl rfl rfl fun a hF=>nu hF 3 rfl rfl rfl fun a hF=>nu hF 4 rfl rfl rfl fun a hF=>nu hF 5 rfl rfl rfl fun a hF=>oV hF (aO (hF.at 6 rfl) ah) rfl fun a hF=>E.nil<|wp_cond_true hF.o<|wq ?_
  refine oS hF (bf ah) rfl fun a hF=>nr ?_
  have bel:=st.bel
  refine rt Tryz.results37 hF 0 rfl ?_
  refine⟨bS ?_,bel⟩
  unfold plE
  rw[if_neg (by rintro⟨e1,e2⟩;simp_all)]
end Go.Proofs.YtgdpkknapcgcbaaGreatDoor
