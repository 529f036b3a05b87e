import Derived.Test.YtgdpkknapcgcbaaGreatDoorKA32
import Derived.Test.YtgdpkknapcgcbaaGreatDoorKA40
import Derived.Laws.StructEq
namespace Go.Proofs.YtgdpkknapcgcbaaGreatDoor
open Go.RowKit
set_option maxRecDepth 100000
set_option linter.unusedVariables false
set_option maxHeartbeats 8000000
theorem vR (n d:Int) (w:World):
 CV 89 #[iv n,iv d,iv 60] w (.bool (wiB 60 n d)):=by
 refine gs3 (nt:=28) Tryz.func89 rfl rfl rfl fun a st hF=>wq ?_
 refine oC hF rfl fun a hF=>nq<|oM hF 2 rfl rfl fun a hF=>?_
 by_cases hc1:1<=d
 ·refine oV hF (au ao hF.o ag (aW (bW (c:=true) (aK hc1)) (by simp))) rfl fun a hF=>oM hF 0 rfl rfl fun a hF=>og hF (aO (hF.at 5 rfl)) 0 rfl rfl rfl fun a hF=>?_
  by_cases hc2:d<=3600
  ·refine og hF (au hF.o ao ag (aW (bW (c:=true) (aK hc2)) (by simp))) 1 rfl rfl rfl fun a hF=>oV hF (bF hF.q hF.o) rfl fun a hF=>oM hF 0 rfl rfl fun a hF=>og hF (aO (hF.at 10 rfl)) 0 rfl rfl rfl fun a hF=>og hF (ju hF.o (uj (by omega) (by omega))) 1 rfl rfl rfl fun a hF=>og hF (aO (hF.at 11 rfl)) 2 rfl rfl rfl fun a hF=>og hF (au hF.p hF.o ag (fw (by omega) (by omega))) 3 rfl rfl rfl fun a hF=>og hF (aO (hF.at 12 rfl)) 4 rfl rfl rfl fun a hF=>?_
   by_cases hc3:(-60)*d<=n
   ·refine og hF (au hF.p hF.o ag (aW (bW (c:=true) (aK hc3)) (by simp))) 5 rfl rfl rfl fun a hF=>oV hF (bF (hF.at 6 rfl) hF.o) rfl fun a hF=>oM hF 0 rfl rfl fun a hF=>og hF (aO (hF.at 16 rfl)) 0 rfl rfl rfl fun a hF=>og hF (aO (hF.at 19 rfl)) 1 rfl rfl rfl fun a hF=>og hF (aO (hF.at 19 rfl)) 2 rfl rfl rfl fun a hF=>og hF (au hF.p hF.o ag (fw (by omega) (by omega))) 3 rfl rfl rfl fun a hF=>?_
    by_cases hc4:n<=60*d
    ·refine og hF (au (hF.at 3 rfl) hF.o ag (aW (bW (c:=true) (aK hc4)) (by simp))) 4 rfl rfl rfl fun a hF=>oV hF (bF (hF.at 5 rfl) hF.o) rfl fun a hF=>oE hF 0 rfl rfl fun a hF=>nr ?_
     have bel:=st.bel
     refine rt Tryz.results89 hF 0 rfl ?_
     refine⟨fH ?_,bel⟩
     unfold wiB
     first|exact(decide_eq_true (by omega)).symm |exact(decide_eq_false (by omega)).symm |exact decide_eq_decide.2 (by omega)
    ·refine og hF (au (hF.at 3 rfl) hF.o ag (aW (bW (c:=false) (aJ hc4)) (by simp))) 4 rfl rfl rfl fun a hF=>oV hF (bF (hF.at 5 rfl) hF.o) rfl fun a hF=>oE hF 0 rfl rfl fun a hF=>nr ?_
     have bel:=st.bel
     refine rt Tryz.results89 hF 0 rfl ?_
     refine⟨fH ?_,bel⟩
     unfold wiB
     first|exact(decide_eq_true (by omega)).symm |exact(decide_eq_false (by omega)).symm |exact decide_eq_decide.2 (by omega)
   ·refine og hF (au hF.p hF.o ag (aW (bW (c:=false) (aJ hc3)) (by simp))) 5 rfl rfl rfl fun a hF=>oV hF (bF (hF.at 6 rfl) hF.o) rfl fun a hF=>oM hF 0 rfl rfl fun a hF=>nu hF 0 rfl rfl rfl fun a hF=>nu hF 1 rfl rfl rfl fun a hF=>nu hF 2 rfl rfl rfl fun a hF=>nu hF 3 rfl rfl rfl fun a hF=>?_
    refine nu hF 4 rfl rfl rfl fun a hF=>oV hF (bB (hF.at 5 rfl) ao) rfl fun a hF=>oE hF 0 rfl rfl fun a hF=>nr ?_
    have bel:=st.bel
    refine rt Tryz.results89 hF 0 rfl ?_
    refine⟨fH ?_,bel⟩
    unfold wiB
    first|exact(decide_eq_true (by omega)).symm |exact(decide_eq_false (by omega)).symm |exact decide_eq_decide.2 (by omega)
  ·refine og hF (au hF.o ao ag (aW (bW (c:=false) (aJ hc2)) (by simp))) 1 rfl rfl rfl fun a hF=>oV hF (bF hF.q hF.o) rfl fun a hF=>oM hF 0 rfl rfl fun a hF=>nu hF 0 rfl rfl rfl fun a hF=>nu hF 1 rfl rfl rfl fun a hF=>nu hF 2 rfl rfl rfl fun a hF=>nu hF 3 rfl rfl rfl fun a hF=>nu hF 4 rfl rfl rfl fun a hF=>nu hF 5 rfl rfl rfl fun a hF=>oV hF (bB (hF.at 6 rfl) ao) rfl fun a hF=>oM hF 0 rfl rfl fun a hF=>nu hF 0 rfl rfl rfl fun a hF=>nu hF 1 rfl rfl rfl fun a hF=>nu hF 2 rfl rfl rfl fun a hF=>?_
   refine nu hF 3 rfl rfl rfl fun a hF=>nu hF 4 rfl rfl rfl fun a hF=>oV hF (bB (hF.at 5 rfl) ao) rfl fun a hF=>oE hF 0 rfl rfl fun a hF=>nr ?_
   have bel:=st.bel
   refine rt Tryz.results89 hF 0 rfl ?_
   refine⟨fH ?_,bel⟩
   unfold wiB
   first|exact(decide_eq_true (by omega)).symm |exact(decide_eq_false (by omega)).symm |exact decide_eq_decide.2 (by omega)
 ·refine oV hF (au ao hF.o ag (aW (bW (c:=false) (aJ hc1)) (by simp))) rfl fun a hF=>oM hF 0 rfl rfl fun a hF=>nu hF 0 rfl rfl rfl fun a hF=>nu hF 1 rfl rfl rfl fun a hF=>oV hF (bB hF.q ao) rfl fun a hF=>oM hF 0 rfl rfl fun a hF=>nu hF 0 rfl rfl rfl fun a hF=>nu hF 1 rfl rfl rfl fun a hF=>nu hF 2 rfl rfl rfl fun a hF=>nu hF 3 rfl rfl rfl fun a hF=>nu hF 4 rfl rfl rfl fun a hF=>nu hF 5 rfl rfl rfl fun a hF=>oV hF (bB (hF.at 6 rfl) ao) rfl fun a hF=>oM hF 0 rfl rfl fun a hF=>?_
  refine nu hF 0 rfl rfl rfl fun a hF=>nu hF 1 rfl rfl rfl fun a hF=>nu hF 2 rfl rfl rfl fun a hF=>nu hF 3 rfl rfl rfl fun a hF=>nu hF 4 rfl rfl rfl fun a hF=>oV hF (bB (hF.at 5 rfl) ao) rfl fun a hF=>oE hF 0 rfl rfl fun a hF=>nr ?_
  have bel:=st.bel
  refine rt Tryz.results89 hF 0 rfl ?_
  refine⟨fH ?_,bel⟩
  unfold wiB
  first|exact(decide_eq_true (by omega)).symm |exact(decide_eq_false (by omega)).symm |exact decide_eq_decide.2 (by omega)
theorem tf (n d:Int) (w:World):
 CV 89 #[iv n,iv d,iv 180] w (.bool (wiB 180 n d)):=by
 refine gs3 (nt:=28) Tryz.func89 rfl rfl rfl fun a st hF=>wq ?_
 refine oC hF rfl fun a hF=>nq<|oM hF 2 rfl rfl fun a hF=>?_
 by_cases hc1:1<=d
 ·refine oV hF (au ao hF.o ag (aW (bW (c:=true) (aK hc1)) (by simp))) rfl fun a hF=>oM hF 0 rfl rfl fun a hF=>og hF (aO (hF.at 5 rfl)) 0 rfl rfl rfl fun a hF=>?_
  by_cases hc2:d<=3600
  ·refine og hF (au hF.o ao ag (aW (bW (c:=true) (aK hc2)) (by simp))) 1 rfl rfl rfl fun a hF=>oV hF (bF hF.q hF.o) rfl fun a hF=>oM hF 0 rfl rfl fun a hF=>og hF (aO (hF.at 10 rfl)) 0 rfl rfl rfl fun a hF=>og hF (ju hF.o (uj (by omega) (by omega))) 1 rfl rfl rfl fun a hF=>og hF (aO (hF.at 11 rfl)) 2 rfl rfl rfl fun a hF=>og hF (au hF.p hF.o ag (fw (by omega) (by omega))) 3 rfl rfl rfl fun a hF=>og hF (aO (hF.at 12 rfl)) 4 rfl rfl rfl fun a hF=>?_
   by_cases hc3:(-180)*d<=n
   ·refine og hF (au hF.p hF.o ag (aW (bW (c:=true) (aK hc3)) (by simp))) 5 rfl rfl rfl fun a hF=>oV hF (bF (hF.at 6 rfl) hF.o) rfl fun a hF=>oM hF 0 rfl rfl fun a hF=>og hF (aO (hF.at 16 rfl)) 0 rfl rfl rfl fun a hF=>og hF (aO (hF.at 19 rfl)) 1 rfl rfl rfl fun a hF=>og hF (aO (hF.at 19 rfl)) 2 rfl rfl rfl fun a hF=>og hF (au hF.p hF.o ag (fw (by omega) (by omega))) 3 rfl rfl rfl fun a hF=>?_
    by_cases hc4:n<=180*d
    ·refine og hF (au (hF.at 3 rfl) hF.o ag (aW (bW (c:=true) (aK hc4)) (by simp))) 4 rfl rfl rfl fun a hF=>oV hF (bF (hF.at 5 rfl) hF.o) rfl fun a hF=>oE hF 0 rfl rfl fun a hF=>nr ?_
     have bel:=st.bel
     refine rt Tryz.results89 hF 0 rfl ?_
     refine⟨fH ?_,bel⟩
     unfold wiB
     first|exact(decide_eq_true (by omega)).symm |exact(decide_eq_false (by omega)).symm |exact decide_eq_decide.2 (by omega)
    ·refine og hF (au (hF.at 3 rfl) hF.o ag (aW (bW (c:=false) (aJ hc4)) (by simp))) 4 rfl rfl rfl fun a hF=>oV hF (bF (hF.at 5 rfl) hF.o) rfl fun a hF=>oE hF 0 rfl rfl fun a hF=>nr ?_
     have bel:=st.bel
     refine rt Tryz.results89 hF 0 rfl ?_
     refine⟨fH ?_,bel⟩
     unfold wiB
     first|exact(decide_eq_true (by omega)).symm |exact(decide_eq_false (by omega)).symm |exact decide_eq_decide.2 (by omega)
   ·refine og hF (au hF.p hF.o ag (aW (bW (c:=false) (aJ hc3)) (by simp))) 5 rfl rfl rfl fun a hF=>oV hF (bF (hF.at 6 rfl) hF.o) rfl fun a hF=>oM hF 0 rfl rfl fun a hF=>nu hF 0 rfl rfl rfl fun a hF=>nu hF 1 rfl rfl rfl fun a hF=>nu hF 2 rfl rfl rfl fun a hF=>nu hF 3 rfl rfl rfl fun a hF=>?_
    refine nu hF 4 rfl rfl rfl fun a hF=>oV hF (bB (hF.at 5 rfl) ao) rfl fun a hF=>oE hF 0 rfl rfl fun a hF=>nr ?_
    have bel:=st.bel
    refine rt Tryz.results89 hF 0 rfl ?_
    refine⟨fH ?_,bel⟩
    unfold wiB
    first|exact(decide_eq_true (by omega)).symm |exact(decide_eq_false (by omega)).symm |exact decide_eq_decide.2 (by omega)
  ·refine og hF (au hF.o ao ag (aW (bW (c:=false) (aJ hc2)) (by simp))) 1 rfl rfl rfl fun a hF=>oV hF (bF hF.q hF.o) rfl fun a hF=>oM hF 0 rfl rfl fun a hF=>nu hF 0 rfl rfl rfl fun a hF=>nu hF 1 rfl rfl rfl fun a hF=>nu hF 2 rfl rfl rfl fun a hF=>nu hF 3 rfl rfl rfl fun a hF=>nu hF 4 rfl rfl rfl fun a hF=>nu hF 5 rfl rfl rfl fun a hF=>oV hF (bB (hF.at 6 rfl) ao) rfl fun a hF=>oM hF 0 rfl rfl fun a hF=>nu hF 0 rfl rfl rfl fun a hF=>nu hF 1 rfl rfl rfl fun a hF=>nu hF 2 rfl rfl rfl fun a hF=>?_
   refine nu hF 3 rfl rfl rfl fun a hF=>nu hF 4 rfl rfl rfl fun a hF=>oV hF (bB (hF.at 5 rfl) ao) rfl fun a hF=>oE hF 0 rfl rfl fun a hF=>nr ?_
   have bel:=st.bel
   refine rt Tryz.results89 hF 0 rfl ?_
   refine⟨fH ?_,bel⟩
   unfold wiB
   first|exact(decide_eq_true (by omega)).symm |exact(decide_eq_false (by omega)).symm |exact decide_eq_decide.2 (by omega)
 ·refine oV hF (au ao hF.o ag (aW (bW (c:=false) (aJ hc1)) (by simp))) rfl fun a hF=>oM hF 0 rfl rfl fun a hF=>nu hF 0 rfl rfl rfl fun a hF=>nu hF 1 rfl rfl rfl fun a hF=>oV hF (bB hF.q ao) rfl fun a hF=>oM hF 0 rfl rfl fun a hF=>nu hF 0 rfl rfl rfl fun a hF=>nu hF 1 rfl rfl rfl fun a hF=>nu hF 2 rfl rfl rfl fun a hF=>nu hF 3 rfl rfl rfl fun a hF=>nu hF 4 rfl rfl rfl fun a hF=>nu hF 5 rfl rfl rfl fun a hF=>oV hF (bB (hF.at 6 rfl) ao) rfl fun a hF=>oM hF 0 rfl rfl fun a hF=>?_
  refine nu hF 0 rfl rfl rfl fun a hF=>nu hF 1 rfl rfl rfl fun a hF=>nu hF 2 rfl rfl rfl fun a hF=>nu hF 3 rfl rfl rfl fun a hF=>nu hF 4 rfl rfl rfl fun a hF=>oV hF (bB (hF.at 5 rfl) ao) rfl fun a hF=>oE hF 0 rfl rfl fun a hF=>nr ?_
  have bel:=st.bel
  refine rt Tryz.results89 hF 0 rfl ?_
  refine⟨fH ?_,bel⟩
  unfold wiB
  first|exact(decide_eq_true (by omega)).symm |exact(decide_eq_false (by omega)).symm |exact decide_eq_decide.2 (by omega)
theorem qA (xa xb xc xd:Int) (w:World):
 CV 37 #[.agg #[iv xa,iv xb,iv xc,iv xd]] w (iv (plE xa xb xc xd)):=by
 refine gs1 (nt:=17) Tryz.func37 rfl rfl rfl fun a st hF=>wq<|bx st hF 0 rfl rfl fun g1 w1 a st hF=>?_
 refine oC hF rfl fun a hF=>ns<|wq<|oV hF (av hF.p (pW (p:=0) rfl)) rfl fun a hF=>oV hF (ar hF.o (cY (v:= iv xa) (st.bk 0 rfl) rfl)) rfl fun a hF=>oV hF (av (hF.at 3 rfl) (pX (p:=1) rfl)) rfl fun a hF=>oV hF (ar hF.o (cY (v:= iv xb) (st.bk 0 rfl) rfl)) rfl fun a hF=>cX st hF (rk JM (rc hF.q hF.o ao)) (vR xa xb _) rfl fun w2 a st hF=>?_
 by_cases hc3:wiB 60 xa xb=true
 ·refine oV hF (ju (Eq.trans hF.o (congrArg Value.bool hc3)) (je _ false rfl)) rfl fun a hF=>oM hF 0 rfl rfl fun a hF=>og hF (av (hF.at 8 rfl) (pH (p:=2) rfl)) 0 rfl rfl rfl fun a hF=>og hF (ar hF.o (cY (v:= iv xc) (st.bk 0 rfl) rfl)) 1 rfl rfl rfl fun a hF=>og hF (av (hF.at 10 rfl) (pt (p:=3) rfl)) 2 rfl rfl rfl fun a hF=>og hF (ar hF.o (cY (v:= iv xd) (st.bk 0 rfl) rfl)) 3 rfl rfl rfl fun a hF=>?_
  refine S.callxg st hF (aw rfl rfl (hF.at 4 rfl) rfl) (rk JM (rc hF.q hF.o ao)) (tf xc xd _) rfl rfl rfl fun w4 a st hF=>?_
  by_cases hc5:wiB 180 xc xd=true
  ·refine og hF (ju (Eq.trans hF.o (congrArg Value.bool hc5)) (je _ false rfl)) 5 rfl rfl rfl fun a hF=>oV hF (bB (hF.at 6 rfl) hF.o) rfl fun a hF=>E.nil<|wp_cond_false hF.o<|wp_skip<|E.norm<|wq ?_
   refine oS hF (bw ao) rfl fun a hF=>nr ?_
   have bel:=st.bel
   refine rt Tryz.results37 hF 0 rfl ?_
   refine⟨bq ?_,bel⟩
   unfold plE
   rw[if_pos ⟨by assumption,by assumption⟩]
  ·refine og hF (ju (Eq.trans hF.o (congrArg Value.bool (eq_false_of_ne_true hc5))) (je _ true rfl)) 5 rfl rfl rfl fun a hF=>oV hF (bB (hF.at 6 rfl) hF.o) rfl fun a hF=>E.nil<|wp_cond_true hF.o<|wq ?_
   refine oS hF (bw ao) rfl fun a hF=>nr ?_
   have bel:=st.bel
   refine rt Tryz.results37 hF 0 rfl ?_
   refine⟨bq ?_,bel⟩
   unfold plE
   rw[if_neg (by rintro⟨e1,e2⟩;simp_all)]
 ·refine oV hF (ju (Eq.trans hF.o (congrArg Value.bool (eq_false_of_ne_true hc3))) (je _ true rfl)) rfl fun a hF=>oM hF 0 rfl rfl fun a hF=>nu hF 0 rfl rfl rfl fun a hF=>nu hF 1 rfl rfl rfl fun a hF=>nu hF 2 rfl rfl rfl fun a hF=>nu hF 3 rfl rfl rfl fun a hF=>nu hF 4 rfl rfl rfl fun a hF=>nu hF 5 rfl rfl rfl fun a hF=>oV hF (bF (hF.at 6 rfl) ao) rfl fun a hF=>E.nil<|wp_cond_true hF.o<|wq ?_
  refine oS hF (bw ao) rfl fun a hF=>nr ?_
  have bel:=st.bel
  refine rt Tryz.results37 hF 0 rfl ?_
  refine⟨bq ?_,bel⟩
  unfold plE
  rw[if_neg (by rintro⟨e1,e2⟩;simp_all)]
theorem Ia:(Tryz.prog.info? 23).map (·.size)=some 4:=by kernel_rfl
theorem Kw:(Tryz.prog.info? 23).bind (·.zero)=some (.agg #[iv 0,iv 0,iv 0,iv 0]):=by kernel_rfl
theorem Ds {w:World} {g o p:Nat} (hp:o+0=p):(Instr.fieldAt 23 (.pointer (some ⟨g,o,none⟩)) 0).run Tryz.prog w= .ok (.pointer (some ⟨g,p,none⟩)) w:=aQ Tryz.underlying23 rfl rfl dV rfl p hp
theorem Co {w:World} {g o p:Nat} (hp:o+1=p):(Instr.fieldAt 23 (.pointer (some ⟨g,o,none⟩)) 1).run Tryz.prog w= .ok (.pointer (some ⟨g,p,none⟩)) w:=aQ Tryz.underlying23 rfl rfl dV rfl p hp
theorem DE {w:World} {g o p:Nat} (hp:o+2=p):(Instr.fieldAt 23 (.pointer (some ⟨g,o,none⟩)) 2).run Tryz.prog w= .ok (.pointer (some ⟨g,p,none⟩)) w:=aQ Tryz.underlying23 rfl rfl dV rfl p hp
theorem Dm {w:World} {g o p:Nat} (hp:o+3=p):(Instr.fieldAt 23 (.pointer (some ⟨g,o,none⟩)) 3).run Tryz.prog w= .ok (.pointer (some ⟨g,p,none⟩)) w:=aQ Tryz.underlying23 rfl rfl dV rfl p hp
theorem I2:Ty Tryz.prog 23 4 [iv 0,iv 0,iv 0,iv 0]:=⟨⟨_,Tryz.underlying23,rfl⟩,Ia,Kw⟩
theorem C2 (n:Int) (w:World) (hn0: -3000000<=n) (hn1:n<=3000000):
 CV 54 #[iv n] w (.bool true):=by
 refine gs1 (nt:=9) Tryz.func54 rfl rfl rfl fun a st hF=>wq ?_
 refine oC hF rfl fun a hF=>nq<|oM hF 1 rfl rfl fun a hF=>?_
 by_cases hc1:(-3000000)<=n
 ·refine oT hF 0 (fv (c:=true) (aK hc1)) rfl rfl fun a hF=>oM hF 0 rfl rfl fun a hF=>og hF (aO (hF.at 4 rfl)) 0 rfl rfl rfl fun a hF=>?_
  by_cases hc2:n<=3000000
  ·refine og hF (au hF.o ao ag (aW (bW (c:=true) (aK hc2)) (by simp))) 1 rfl rfl rfl fun a hF=>oV hF (bF hF.q hF.o) rfl fun a hF=>oE hF 0 rfl rfl fun a hF=>nr ?_
   have bel:=st.bel
   refine rt Tryz.results54 hF 0 rfl ?_
   exact⟨rfl,bel⟩
  ·(exfalso;omega)
 ·(exfalso;omega)
theorem Bf (wa wb wc wd:Int) (w:World):
 CV 17 #[.agg #[iv wa,iv wb,iv wc,iv wd]] w (.agg #[iv (gA 60 120 wa wb),iv (gB wb),iv (gA 180 360 wc wd),iv (gB wd)]):=by
 refine gs1 (nt:=12) Tryz.func17 rfl rfl rfl fun a st hF=>wq<|bx st hF 0 rfl rfl fun g1 w1 a st hF=>S.alloc st hF cB rfl rfl fun g2 w2 a st hF=>nq<|oV hF (av hF.p (Ds (p:=0) rfl)) rfl fun a hF=>oV hF (ar hF.o (cY (v:= iv wa) (st.bk 1 rfl) rfl)) rfl fun a hF=>oV hF (av (hF.at 3 rfl) (Co (p:=1) rfl)) rfl fun a hF=>oV hF (ar hF.o (cY (v:= iv wb) (st.bk 1 rfl) rfl)) rfl fun a hF=>oV hF (av (hF.at 5 rfl) (DE (p:=2) rfl)) rfl fun a hF=>oV hF (ar hF.o (cY (v:= iv wc) (st.bk 1 rfl) rfl)) rfl fun a hF=>oV hF (av (hF.at 7 rfl) (Dm (p:=3) rfl)) rfl fun a hF=>?_
 refine oV hF (ar hF.o (cY (v:= iv wd) (st.bk 1 rfl) rfl)) rfl fun a hF=>cX st hF (rgc k53 (Ek (hF.at 6 rfl) (hF.at 4 rfl) hF.q hF.o)) (CL wa wb wc wd _) rfl fun w3 a st hF=>?_
 have hg1:=mv wb
 have hg2:=se wa wb
 have hg3:=mv wd
 have hg4:=qW wc wd
 have hok9250:=xD wa wb wc wd
 refine S.stoI st hF 0 rfl (hF.at 9 rfl) hF.o cB rfl rfl rfl fun w4 a st hF=>nr<|rs Tryz.results17 st hF 9 0 cB rfl rfl rfl ?_
 exact⟨rfl,st.bel⟩
theorem Ei {wa wb wc wd pa pb pc pd:Int} (w:World) (ha:gA 60 120 wa wb=pa) (hb:gB wb=pb) (hc:gA 180 360 wc wd=pc) (hd:gB wd=pd):CV 17 #[.agg #[iv wa,iv wb,iv wc,iv wd]] w (.agg #[iv pa,iv pb,iv pc,iv pd]):=by
 subst ha hb hc hd
 exact Bf wa wb wc wd w
theorem Iv {n z:Int} (w:World) (h:inD n=z):CV 16 #[iv n] w (iv z):=by
 subst h
 exact FZ n w
theorem iQ (n:Int) (xa xb xc xd:Int) (v1:Value) (w:World) (ho:RPl w v1 (((xa:Int):Rat)/((xb:Int):Rat)) (((xc:Int):Rat)/((xd:Int):Rat)) 2) (hok:cS xa xb xc xd) (hn0: -4000000<=n) (hn1:n<=4000000):
 CP 22 #[iv n,v1] w (bh w (bi (cT n xa xb xc xd)) 120):=by
 obtain⟨bpx,adpx,npx,cpx,aepx,mpx,dpx,bpy,adpy,npy,cpy,aepy,mpy,dpy,rfl,hpx,hpy⟩:=RPl.shape ho
 have ho:RPl w (.agg #[.bool bpx,.slice adpx npx cpx,.slice aepx mpx dpx,.bool bpy,.slice adpy npy cpy,.slice aepy mpy dpy]) (((xa:Int):Rat)/((xb:Int):Rat)) (((xc:Int):Rat)/((xd:Int):Rat)) 2:=⟨_,_,_,_,_,_,_,_,_,_,_,_,_,_,rfl,hpx,hpy⟩
 refine gs2 (nt:=9) Tryz.func22 rfl rfl rfl fun a st hF=>wq<|bx st hF 1 rfl rfl fun g3 w1 a st hF=>S.alloc st hF ab rfl rfl fun g4 w2 a st hF=>nq<|oM hF 2 rfl rfl fun a hF=>oL hF st 2 1 fC rfl rfl rfl rfl fun a hF=>S.ck st hF (rgc k72 (aB hF.p hF.o)) (aR (wl n _ ((((xa:Int):Rat)/((xb:Int):Rat))) _ _ (ho.below st.bel) (hok.ll.up 2 (by decide)) (hok.lm.up 2 (by decide)) (by omega) (by omega)) (ru (by first|assumption|constructor<;>omega) (by omega) (by omega))) Rh.cl rfl fun vv4 w3 a st hF=>?_
 obtain⟨r6,rfl⟩:=Rr.fo (st.f 0 rfl).1
 refine S.ck st hF (rgc k71 (aD hF.o)) (aR (nf _ _ 3300 90 _ (st.f 0 rfl).1 (st.f 0 rfl).2 (by omega) (by omega) (by omega)) (sG (st.f 0 rfl).2)) Rh.cl rfl fun vv8 w7 a st hF=>?_
 obtain⟨r10,rfl⟩:=Rr.fo (st.f 0 rfl).1
 refine so st hF 0 4 0 ab rfl rfl rfl rfl fun w11 a st hF=>nr<|rs Tryz.results22 st hF 4 0 ab rfl rfl rfl ?_
 exact⟨_,rfl,Rr.cast (Rr.up (st.f 0 rfl).1 _ (by omega)) rfl,st.bel⟩
theorem tm (n:Int) (xa xb xc xd:Int) (v1:Value) (w:World) (ho:RPl w v1 (((xa:Int):Rat)/((xb:Int):Rat)) (((xc:Int):Rat)/((xd:Int):Rat)) 2) (hok:cS xa xb xc xd) (hn0: -4000000<=n) (hn1:n<=4000000):
 CP 23 #[iv n,v1] w (bh w (bi (jw n xa xb xc xd)) 120):=by
 obtain⟨bpx,adpx,npx,cpx,aepx,mpx,dpx,bpy,adpy,npy,cpy,aepy,mpy,dpy,rfl,hpx,hpy⟩:=RPl.shape ho
 have ho:RPl w (.agg #[.bool bpx,.slice adpx npx cpx,.slice aepx mpx dpx,.bool bpy,.slice adpy npy cpy,.slice aepy mpy dpy]) (((xa:Int):Rat)/((xb:Int):Rat)) (((xc:Int):Rat)/((xd:Int):Rat)) 2:=⟨_,_,_,_,_,_,_,_,_,_,_,_,_,_,rfl,hpx,hpy⟩
 refine gs2 (nt:=9) Tryz.func23 rfl rfl rfl fun a st hF=>wq<|bx st hF 1 rfl rfl fun g3 w1 a st hF=>S.alloc st hF ab rfl rfl fun g4 w2 a st hF=>nq<|oM hF 2 rfl rfl fun a hF=>oL hF st 2 1 fC rfl rfl rfl rfl fun a hF=>S.ck st hF (rgc k73 (aB hF.p hF.o)) (aR (v8 n _ ((((xa:Int):Rat)/((xb:Int):Rat))) _ _ (ho.below st.bel) (hok.ll.up 2 (by decide)) (hok.lm.up 2 (by decide)) (by omega) (by omega)) (rU (by first|assumption|constructor<;>omega) (by omega) (by omega))) Rh.cl rfl fun vv4 w3 a st hF=>?_
 obtain⟨r6,rfl⟩:=Rr.fo (st.f 0 rfl).1
 refine S.ck st hF (rgc k71 (aD hF.o)) (aR (nf _ _ 3300 90 _ (st.f 0 rfl).1 (st.f 0 rfl).2 (by omega) (by omega) (by omega)) (sG (st.f 0 rfl).2)) Rh.cl rfl fun vv8 w7 a st hF=>?_
 obtain⟨r10,rfl⟩:=Rr.fo (st.f 0 rfl).1
 refine so st hF 0 4 0 ab rfl rfl rfl rfl fun w11 a st hF=>nr<|rs Tryz.results23 st hF 4 0 ab rfl rfl rfl ?_
 exact⟨_,rfl,Rr.cast (Rr.up (st.f 0 rfl).1 _ (by omega)) rfl,st.bel⟩
end Go.Proofs.YtgdpkknapcgcbaaGreatDoor
