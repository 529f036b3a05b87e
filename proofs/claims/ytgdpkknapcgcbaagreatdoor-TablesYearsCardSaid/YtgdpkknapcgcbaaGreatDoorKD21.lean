import Derived.Test.YtgdpkknapcgcbaaGreatDoorKD17
namespace Go.Proofs.YtgdpkknapcgcbaaGreatDoor
open Go.RowKit
set_option maxRecDepth 100000
set_option linter.unusedVariables false
set_option maxHeartbeats 8000000
theorem rU (n d:Int) (w:World):
 CV 89 #[iv n,iv d,iv 60] w (.bool (wiB 60 n d)):=by
 refine gs3 (nt:=28) Tryz.func89 rfl rfl rfl fun a st hF=>wq ?_
 refine oC hF rfl fun a hF=>nq<|oM hF 2 rfl rfl fun a hF=>?_
 by_cases hc1:1<=d
 ·refine oV hF (ao ah hF.o ab (aL (bP (c:=true) (aJ hc1)) (by simp))) rfl fun a hF=>oM hF 0 rfl rfl fun a hF=>og hF (aG (hF.at 5 rfl)) 0 rfl rfl rfl fun a hF=>?_
  by_cases hc2:d<=3600
  ·refine og hF (ao hF.o ah ab (aL (bP (c:=true) (aJ hc2)) (by simp))) 1 rfl rfl rfl fun a hF=>oV hF (aV hF.q hF.o) rfl fun a hF=>oM hF 0 rfl rfl fun a hF=>og hF (aG (hF.at 10 rfl)) 0 rfl rfl rfl fun a hF=>og hF (fZ hF.o (yT (by omega) (by omega))) 1 rfl rfl rfl fun a hF=>og hF (aG (hF.at 11 rfl)) 2 rfl rfl rfl fun a hF=>og hF (ao hF.p hF.o ab (fp (by omega) (by omega))) 3 rfl rfl rfl fun a hF=>og hF (aG (hF.at 12 rfl)) 4 rfl rfl rfl fun a hF=>?_
   by_cases hc3:(-60)*d<=n
   ·refine og hF (ao hF.p hF.o ab (aL (bP (c:=true) (aJ hc3)) (by simp))) 5 rfl rfl rfl fun a hF=>oV hF (aV (hF.at 6 rfl) hF.o) rfl fun a hF=>oM hF 0 rfl rfl fun a hF=>og hF (aG (hF.at 16 rfl)) 0 rfl rfl rfl fun a hF=>og hF (aG (hF.at 19 rfl)) 1 rfl rfl rfl fun a hF=>og hF (aG (hF.at 19 rfl)) 2 rfl rfl rfl fun a hF=>og hF (ao hF.p hF.o ab (fp (by omega) (by omega))) 3 rfl rfl rfl fun a hF=>?_
    by_cases hc4:n<=60*d
    ·refine og hF (ao (hF.at 3 rfl) hF.o ab (aL (bP (c:=true) (aJ hc4)) (by simp))) 4 rfl rfl rfl fun a hF=>oV hF (aV (hF.at 5 rfl) hF.o) rfl fun a hF=>oE hF 0 rfl rfl fun a hF=>nr ?_
     have bel:=st.bel
     refine rt Tryz.results89 hF 0 rfl ?_
     refine⟨ff ?_,bel⟩
     unfold wiB
     first|exact(decide_eq_true (by omega)).symm |exact(decide_eq_false (by omega)).symm |exact decide_eq_decide.2 (by omega)
    ·refine og hF (ao (hF.at 3 rfl) hF.o ab (aL (bP (c:=false) (aH hc4)) (by simp))) 4 rfl rfl rfl fun a hF=>oV hF (aV (hF.at 5 rfl) hF.o) rfl fun a hF=>oE hF 0 rfl rfl fun a hF=>nr ?_
     have bel:=st.bel
     refine rt Tryz.results89 hF 0 rfl ?_
     refine⟨ff ?_,bel⟩
     unfold wiB
     first|exact(decide_eq_true (by omega)).symm |exact(decide_eq_false (by omega)).symm |exact decide_eq_decide.2 (by omega)
   ·refine og hF (ao hF.p hF.o ab (aL (bP (c:=false) (aH hc3)) (by simp))) 5 rfl rfl rfl fun a hF=>oV hF (aV (hF.at 6 rfl) hF.o) rfl fun a hF=>oM hF 0 rfl rfl fun a hF=>nu hF 0 rfl rfl rfl fun a hF=>nu hF 1 rfl rfl rfl fun a hF=>nu hF 2 rfl rfl rfl fun a hF=>nu hF 3 rfl rfl rfl fun a hF=>?_
    refine nu hF 4 rfl rfl rfl fun a hF=>oV hF (aP (hF.at 5 rfl) ah) rfl fun a hF=>oE hF 0 rfl rfl fun a hF=>nr ?_
    have bel:=st.bel
    refine rt Tryz.results89 hF 0 rfl ?_
    refine⟨ff ?_,bel⟩
    unfold wiB
    first|exact(decide_eq_true (by omega)).symm |exact(decide_eq_false (by omega)).symm |exact decide_eq_decide.2 (by omega)
  ·refine og hF (ao hF.o ah ab (aL (bP (c:=false) (aH hc2)) (by simp))) 1 rfl rfl rfl fun a hF=>oV hF (aV hF.q hF.o) rfl fun a hF=>oM hF 0 rfl rfl fun a hF=>nu hF 0 rfl rfl rfl fun a hF=>nu hF 1 rfl rfl rfl fun a hF=>nu hF 2 rfl rfl rfl fun a hF=>nu hF 3 rfl rfl rfl fun a hF=>nu hF 4 rfl rfl rfl fun a hF=>nu hF 5 rfl rfl rfl fun a hF=>oV hF (aP (hF.at 6 rfl) ah) rfl fun a hF=>oM hF 0 rfl rfl fun a hF=>nu hF 0 rfl rfl rfl fun a hF=>nu hF 1 rfl rfl rfl fun a hF=>nu hF 2 rfl rfl rfl fun a hF=>?_
   refine nu hF 3 rfl rfl rfl fun a hF=>nu hF 4 rfl rfl rfl fun a hF=>oV hF (aP (hF.at 5 rfl) ah) rfl fun a hF=>oE hF 0 rfl rfl fun a hF=>nr ?_
   have bel:=st.bel
   refine rt Tryz.results89 hF 0 rfl ?_
   refine⟨ff ?_,bel⟩
   unfold wiB
   first|exact(decide_eq_true (by omega)).symm |exact(decide_eq_false (by omega)).symm |exact decide_eq_decide.2 (by omega)
 ·refine oV hF (ao ah hF.o ab (aL (bP (c:=false) (aH hc1)) (by simp))) rfl fun a hF=>oM hF 0 rfl rfl fun a hF=>nu hF 0 rfl rfl rfl fun a hF=>nu hF 1 rfl rfl rfl fun a hF=>oV hF (aP hF.q ah) rfl fun a hF=>oM hF 0 rfl rfl fun a hF=>nu hF 0 rfl rfl rfl fun a hF=>nu hF 1 rfl rfl rfl fun a hF=>nu hF 2 rfl rfl rfl fun a hF=>nu hF 3 rfl rfl rfl fun a hF=>nu hF 4 rfl rfl rfl fun a hF=>nu hF 5 rfl rfl rfl fun a hF=>oV hF (aP (hF.at 6 rfl) ah) rfl fun a hF=>oM hF 0 rfl rfl fun a hF=>?_
  refine nu hF 0 rfl rfl rfl fun a hF=>nu hF 1 rfl rfl rfl fun a hF=>nu hF 2 rfl rfl rfl fun a hF=>nu hF 3 rfl rfl rfl fun a hF=>nu hF 4 rfl rfl rfl fun a hF=>oV hF (aP (hF.at 5 rfl) ah) rfl fun a hF=>oE hF 0 rfl rfl fun a hF=>nr ?_
  have bel:=st.bel
  refine rt Tryz.results89 hF 0 rfl ?_
  refine⟨ff ?_,bel⟩
  unfold wiB
  first|exact(decide_eq_true (by omega)).symm |exact(decide_eq_false (by omega)).symm |exact decide_eq_decide.2 (by omega)
theorem rc (n d:Int) (w:World):
 CV 89 #[iv n,iv d,iv 180] w (.bool (wiB 180 n d)):=by
 refine gs3 (nt:=28) Tryz.func89 rfl rfl rfl fun a st hF=>wq ?_
 refine oC hF rfl fun a hF=>nq<|oM hF 2 rfl rfl fun a hF=>?_
 by_cases hc1:1<=d
 ·refine oV hF (ao ah hF.o ab (aL (bP (c:=true) (aJ hc1)) (by simp))) rfl fun a hF=>oM hF 0 rfl rfl fun a hF=>og hF (aG (hF.at 5 rfl)) 0 rfl rfl rfl fun a hF=>?_
  by_cases hc2:d<=3600
  ·refine og hF (ao hF.o ah ab (aL (bP (c:=true) (aJ hc2)) (by simp))) 1 rfl rfl rfl fun a hF=>oV hF (aV hF.q hF.o) rfl fun a hF=>oM hF 0 rfl rfl fun a hF=>og hF (aG (hF.at 10 rfl)) 0 rfl rfl rfl fun a hF=>og hF (fZ hF.o (yT (by omega) (by omega))) 1 rfl rfl rfl fun a hF=>og hF (aG (hF.at 11 rfl)) 2 rfl rfl rfl fun a hF=>og hF (ao hF.p hF.o ab (fp (by omega) (by omega))) 3 rfl rfl rfl fun a hF=>og hF (aG (hF.at 12 rfl)) 4 rfl rfl rfl fun a hF=>?_
   by_cases hc3:(-180)*d<=n
   ·refine og hF (ao hF.p hF.o ab (aL (bP (c:=true) (aJ hc3)) (by simp))) 5 rfl rfl rfl fun a hF=>oV hF (aV (hF.at 6 rfl) hF.o) rfl fun a hF=>oM hF 0 rfl rfl fun a hF=>og hF (aG (hF.at 16 rfl)) 0 rfl rfl rfl fun a hF=>og hF (aG (hF.at 19 rfl)) 1 rfl rfl rfl fun a hF=>og hF (aG (hF.at 19 rfl)) 2 rfl rfl rfl fun a hF=>og hF (ao hF.p hF.o ab (fp (by omega) (by omega))) 3 rfl rfl rfl fun a hF=>?_
    by_cases hc4:n<=180*d
    ·refine og hF (ao (hF.at 3 rfl) hF.o ab (aL (bP (c:=true) (aJ hc4)) (by simp))) 4 rfl rfl rfl fun a hF=>oV hF (aV (hF.at 5 rfl) hF.o) rfl fun a hF=>oE hF 0 rfl rfl fun a hF=>nr ?_
     have bel:=st.bel
     refine rt Tryz.results89 hF 0 rfl ?_
     refine⟨ff ?_,bel⟩
     unfold wiB
     first|exact(decide_eq_true (by omega)).symm |exact(decide_eq_false (by omega)).symm |exact decide_eq_decide.2 (by omega)
    ·refine og hF (ao (hF.at 3 rfl) hF.o ab (aL (bP (c:=false) (aH hc4)) (by simp))) 4 rfl rfl rfl fun a hF=>oV hF (aV (hF.at 5 rfl) hF.o) rfl fun a hF=>oE hF 0 rfl rfl fun a hF=>nr ?_
     have bel:=st.bel
     refine rt Tryz.results89 hF 0 rfl ?_
     refine⟨ff ?_,bel⟩
     unfold wiB
     first|exact(decide_eq_true (by omega)).symm |exact(decide_eq_false (by omega)).symm |exact decide_eq_decide.2 (by omega)
   ·refine og hF (ao hF.p hF.o ab (aL (bP (c:=false) (aH hc3)) (by simp))) 5 rfl rfl rfl fun a hF=>oV hF (aV (hF.at 6 rfl) hF.o) rfl fun a hF=>oM hF 0 rfl rfl fun a hF=>nu hF 0 rfl rfl rfl fun a hF=>nu hF 1 rfl rfl rfl fun a hF=>nu hF 2 rfl rfl rfl fun a hF=>nu hF 3 rfl rfl rfl fun a hF=>?_
    refine nu hF 4 rfl rfl rfl fun a hF=>oV hF (aP (hF.at 5 rfl) ah) rfl fun a hF=>oE hF 0 rfl rfl fun a hF=>nr ?_
    have bel:=st.bel
    refine rt Tryz.results89 hF 0 rfl ?_
    refine⟨ff ?_,bel⟩
    unfold wiB
    first|exact(decide_eq_true (by omega)).symm |exact(decide_eq_false (by omega)).symm |exact decide_eq_decide.2 (by omega)
  ·refine og hF (ao hF.o ah ab (aL (bP (c:=false) (aH hc2)) (by simp))) 1 rfl rfl rfl fun a hF=>oV hF (aV hF.q hF.o) rfl fun a hF=>oM hF 0 rfl rfl fun a hF=>nu hF 0 rfl rfl rfl fun a hF=>nu hF 1 rfl rfl rfl fun a hF=>nu hF 2 rfl rfl rfl fun a hF=>nu hF 3 rfl rfl rfl fun a hF=>nu hF 4 rfl rfl rfl fun a hF=>nu hF 5 rfl rfl rfl fun a hF=>oV hF (aP (hF.at 6 rfl) ah) rfl fun a hF=>oM hF 0 rfl rfl fun a hF=>nu hF 0 rfl rfl rfl fun a hF=>nu hF 1 rfl rfl rfl fun a hF=>nu hF 2 rfl rfl rfl fun a hF=>?_
   refine nu hF 3 rfl rfl rfl fun a hF=>nu hF 4 rfl rfl rfl fun a hF=>oV hF (aP (hF.at 5 rfl) ah) rfl fun a hF=>oE hF 0 rfl rfl fun a hF=>nr ?_
   have bel:=st.bel
   refine rt Tryz.results89 hF 0 rfl ?_
   refine⟨ff ?_,bel⟩
   unfold wiB
   first|exact(decide_eq_true (by omega)).symm |exact(decide_eq_false (by omega)).symm |exact decide_eq_decide.2 (by omega)
 ·refine oV hF (ao ah hF.o ab (aL (bP (c:=false) (aH hc1)) (by simp))) rfl fun a hF=>oM hF 0 rfl rfl fun a hF=>nu hF 0 rfl rfl rfl fun a hF=>nu hF 1 rfl rfl rfl fun a hF=>oV hF (aP hF.q ah) rfl fun a hF=>oM hF 0 rfl rfl fun a hF=>nu hF 0 rfl rfl rfl fun a hF=>nu hF 1 rfl rfl rfl fun a hF=>nu hF 2 rfl rfl rfl fun a hF=>nu hF 3 rfl rfl rfl fun a hF=>nu hF 4 rfl rfl rfl fun a hF=>nu hF 5 rfl rfl rfl fun a hF=>oV hF (aP (hF.at 6 rfl) ah) rfl fun a hF=>oM hF 0 rfl rfl fun a hF=>?_
  refine nu hF 0 rfl rfl rfl fun a hF=>nu hF 1 rfl rfl rfl fun a hF=>nu hF 2 rfl rfl rfl fun a hF=>nu hF 3 rfl rfl rfl fun a hF=>nu hF 4 rfl rfl rfl fun a hF=>oV hF (aP (hF.at 5 rfl) ah) rfl fun a hF=>oE hF 0 rfl rfl fun a hF=>nr ?_
  have bel:=st.bel
  refine rt Tryz.results89 hF 0 rfl ?_
  refine⟨ff ?_,bel⟩
  unfold wiB
  first|exact(decide_eq_true (by omega)).symm |exact(decide_eq_false (by omega)).symm |exact decide_eq_decide.2 (by omega)
theorem o0 (xa xb xc xd:Int) (w:World):
 CV 37 #[.agg #[iv xa,iv xb,iv xc,iv xd]] w (iv (plE xa xb xc xd)):=by
 refine gs1 (nt:=17) Tryz.func37 rfl rfl rfl fun a st hF=>wq<|bx st hF 0 rfl rfl fun g1 w1 a st hF=>?_
 refine oC hF rfl fun a hF=>ns<|wq<|oV hF (au hF.p (tC (p:=0) rfl)) rfl fun a hF=>oV hF (ar hF.o (bi (v:= iv xa) (st.bk 0 rfl) rfl)) rfl fun a hF=>oV hF (au (hF.at 3 rfl) (rF (p:=1) rfl)) rfl fun a hF=>oV hF (ar hF.o (bi (v:= iv xb) (st.bk 0 rfl) rfl)) rfl fun a hF=>cX st hF (rk Fe (gR hF.q hF.o ah)) (rU xa xb _) rfl fun w2 a st hF=>?_
 by_cases hc3:wiB 60 xa xb=true
 ·refine oV hF (fZ (Eq.trans hF.o (congrArg Value.bool hc3)) (eo _ false rfl)) rfl fun a hF=>oM hF 0 rfl rfl fun a hF=>og hF (au (hF.at 8 rfl) (rC (p:=2) rfl)) 0 rfl rfl rfl fun a hF=>og hF (ar hF.o (bi (v:= iv xc) (st.bk 0 rfl) rfl)) 1 rfl rfl rfl fun a hF=>og hF (au (hF.at 10 rfl) (tI (p:=3) rfl)) 2 rfl rfl rfl fun a hF=>og hF (ar hF.o (bi (v:= iv xd) (st.bk 0 rfl) rfl)) 3 rfl rfl rfl fun a hF=>?_
  refine S.callxg st hF (aq rfl rfl (hF.at 4 rfl) rfl) (rk Fe (gR hF.q hF.o ah)) (rc xc xd _) rfl rfl rfl fun w4 a st hF=>?_
  by_cases hc5:wiB 180 xc xd=true
  ·refine og hF (fZ (Eq.trans hF.o (congrArg Value.bool hc5)) (eo _ false rfl)) 5 rfl rfl rfl fun a hF=>oV hF (aP (hF.at 6 rfl) hF.o) rfl fun a hF=>E.nil<|wp_cond_false hF.o<|wp_skip<|E.norm<|wq ?_
   refine oS hF (aQ ah) rfl fun a hF=>nr ?_
   have bel:=st.bel
   refine rt Tryz.results37 hF 0 rfl ?_
   refine⟨bU ?_,bel⟩
   unfold plE
   rw[if_pos ⟨by assumption,by assumption⟩]
  ·refine og hF (fZ (Eq.trans hF.o (congrArg Value.bool (eq_false_of_ne_true hc5))) (eo _ true rfl)) 5 rfl rfl rfl fun a hF=>oV hF (aP (hF.at 6 rfl) hF.o) rfl fun a hF=>E.nil<|wp_cond_true hF.o<|wq ?_
   refine oS hF (aQ ah) rfl fun a hF=>nr ?_
   have bel:=st.bel
   refine rt Tryz.results37 hF 0 rfl ?_
   refine⟨bU ?_,bel⟩
   unfold plE
   rw[if_neg (by rintro⟨e1,e2⟩;simp_all)]
 ·refine oV hF (fZ (Eq.trans hF.o (congrArg Value.bool (eq_false_of_ne_true hc3))) (eo _ true rfl)) rfl fun a hF=>oM hF 0 rfl rfl fun a hF=>nu hF 0 rfl rfl rfl fun a hF=>nu hF 1 rfl rfl rfl fun a hF=>nu hF 2 rfl rfl rfl fun a hF=>nu hF 3 rfl rfl rfl fun a hF=>nu hF 4 rfl rfl rfl fun a hF=>nu hF 5 rfl rfl rfl fun a hF=>oV hF (aV (hF.at 6 rfl) ah) rfl fun a hF=>E.nil<|wp_cond_true hF.o<|wq ?_
  refine oS hF (aQ ah) rfl fun a hF=>nr ?_
  have bel:=st.bel
  refine rt Tryz.results37 hF 0 rfl ?_
  refine⟨bU ?_,bel⟩
  unfold plE
  rw[if_neg (by rintro⟨e1,e2⟩;simp_all)]
end Go.Proofs.YtgdpkknapcgcbaaGreatDoor
