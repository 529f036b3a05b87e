import Derived.Test.YtddiipaomejcfaaGreatDoorKA27
import Derived.Test.YtddiipaomejcfaaGreatDoorKA28
import Derived.Laws.StructEq
namespace Go.Proofs.YtddiipaomejcfaaGreatDoor
open Go.RowKit
set_option maxRecDepth 100000
set_option linter.unusedVariables false
set_option maxHeartbeats 8000000
theorem rF (n d:Int) (w:World):
 CV 80 #[iv n,iv d,iv 60] w (.bool (wiB 60 n d)):=by
 refine gs3 (nt:=28) Tryz.func80 rfl rfl rfl fun a st hF=>wq ?_
 refine oC hF rfl fun a hF=>nq<|oM hF 2 rfl rfl fun a hF=>?_
 by_cases hc1:1<=d
 ·refine oV hF (ao aq hF.o ah (aO (bp (c:=true) (aA hc1)) (by simp))) rfl fun a hF=>oM hF 0 rfl rfl fun a hF=>og hF (aC (hF.at 5 rfl)) 0 rfl rfl rfl fun a hF=>?_
  by_cases hc2:d<=3600
  ·refine og hF (ao hF.o aq ah (aO (bp (c:=true) (aA hc2)) (by simp))) 1 rfl rfl rfl fun a hF=>oV hF (aB hF.q hF.o) rfl fun a hF=>oM hF 0 rfl rfl fun a hF=>og hF (aC (hF.at 10 rfl)) 0 rfl rfl rfl fun a hF=>og hF (dc hF.o (wu (by omega) (by omega))) 1 rfl rfl rfl fun a hF=>og hF (aC (hF.at 11 rfl)) 2 rfl rfl rfl fun a hF=>og hF (ao hF.p hF.o ah (eQ (by omega) (by omega))) 3 rfl rfl rfl fun a hF=>og hF (aC (hF.at 12 rfl)) 4 rfl rfl rfl fun a hF=>?_
   by_cases hc3:(-60)*d<=n
   ·refine og hF (ao hF.p hF.o ah (aO (bp (c:=true) (aA hc3)) (by simp))) 5 rfl rfl rfl fun a hF=>oV hF (aB (hF.at 6 rfl) hF.o) rfl fun a hF=>oM hF 0 rfl rfl fun a hF=>og hF (aC (hF.at 16 rfl)) 0 rfl rfl rfl fun a hF=>og hF (aC (hF.at 19 rfl)) 1 rfl rfl rfl fun a hF=>og hF (aC (hF.at 19 rfl)) 2 rfl rfl rfl fun a hF=>og hF (ao hF.p hF.o ah (eQ (by omega) (by omega))) 3 rfl rfl rfl fun a hF=>?_
    by_cases hc4:n<=60*d
    ·refine og hF (ao (hF.at 3 rfl) hF.o ah (aO (bp (c:=true) (aA hc4)) (by simp))) 4 rfl rfl rfl fun a hF=>oV hF (aB (hF.at 5 rfl) hF.o) rfl fun a hF=>oE hF 0 rfl rfl fun a hF=>nr ?_
     have bel:=st.bel
     refine rt Tryz.results80 hF 0 rfl ?_
     refine⟨eX ?_,bel⟩
     unfold wiB
     first|exact(decide_eq_true (by omega)).symm |exact(decide_eq_false (by omega)).symm |exact decide_eq_decide.2 (by omega)
    ·refine og hF (ao (hF.at 3 rfl) hF.o ah (aO (bp (c:=false) (aK hc4)) (by simp))) 4 rfl rfl rfl fun a hF=>oV hF (aB (hF.at 5 rfl) hF.o) rfl fun a hF=>oE hF 0 rfl rfl fun a hF=>nr ?_
     have bel:=st.bel
     refine rt Tryz.results80 hF 0 rfl ?_
     refine⟨eX ?_,bel⟩
     unfold wiB
     first|exact(decide_eq_true (by omega)).symm |exact(decide_eq_false (by omega)).symm |exact decide_eq_decide.2 (by omega)
   ·refine og hF (ao hF.p hF.o ah (aO (bp (c:=false) (aK hc3)) (by simp))) 5 rfl rfl rfl fun a hF=>oV hF (aB (hF.at 6 rfl) hF.o) rfl fun a hF=>oM hF 0 rfl rfl fun a hF=>nu hF 0 rfl rfl rfl fun a hF=>nu hF 1 rfl rfl rfl fun a hF=>nu hF 2 rfl rfl rfl fun a hF=>nu hF 3 rfl rfl rfl fun a hF=>?_
    refine nu hF 4 rfl rfl rfl fun a hF=>oV hF (aX (hF.at 5 rfl) aq) rfl fun a hF=>oE hF 0 rfl rfl fun a hF=>nr ?_
    have bel:=st.bel
    refine rt Tryz.results80 hF 0 rfl ?_
    refine⟨eX ?_,bel⟩
    unfold wiB
    first|exact(decide_eq_true (by omega)).symm |exact(decide_eq_false (by omega)).symm |exact decide_eq_decide.2 (by omega)
  ·refine og hF (ao hF.o aq ah (aO (bp (c:=false) (aK hc2)) (by simp))) 1 rfl rfl rfl fun a hF=>oV hF (aB hF.q hF.o) rfl fun a hF=>oM hF 0 rfl rfl fun a hF=>nu hF 0 rfl rfl rfl fun a hF=>nu hF 1 rfl rfl rfl fun a hF=>nu hF 2 rfl rfl rfl fun a hF=>nu hF 3 rfl rfl rfl fun a hF=>nu hF 4 rfl rfl rfl fun a hF=>nu hF 5 rfl rfl rfl fun a hF=>oV hF (aX (hF.at 6 rfl) aq) rfl fun a hF=>oM hF 0 rfl rfl fun a hF=>nu hF 0 rfl rfl rfl fun a hF=>nu hF 1 rfl rfl rfl fun a hF=>nu hF 2 rfl rfl rfl fun a hF=>?_
   refine nu hF 3 rfl rfl rfl fun a hF=>nu hF 4 rfl rfl rfl fun a hF=>oV hF (aX (hF.at 5 rfl) aq) rfl fun a hF=>oE hF 0 rfl rfl fun a hF=>nr ?_
   have bel:=st.bel
   refine rt Tryz.results80 hF 0 rfl ?_
   refine⟨eX ?_,bel⟩
   unfold wiB
   first|exact(decide_eq_true (by omega)).symm |exact(decide_eq_false (by omega)).symm |exact decide_eq_decide.2 (by omega)
 ·refine oV hF (ao aq hF.o ah (aO (bp (c:=false) (aK hc1)) (by simp))) rfl fun a hF=>oM hF 0 rfl rfl fun a hF=>nu hF 0 rfl rfl rfl fun a hF=>nu hF 1 rfl rfl rfl fun a hF=>oV hF (aX hF.q aq) rfl fun a hF=>oM hF 0 rfl rfl fun a hF=>nu hF 0 rfl rfl rfl fun a hF=>nu hF 1 rfl rfl rfl fun a hF=>nu hF 2 rfl rfl rfl fun a hF=>nu hF 3 rfl rfl rfl fun a hF=>nu hF 4 rfl rfl rfl fun a hF=>nu hF 5 rfl rfl rfl fun a hF=>oV hF (aX (hF.at 6 rfl) aq) rfl fun a hF=>oM hF 0 rfl rfl fun a hF=>?_
  refine nu hF 0 rfl rfl rfl fun a hF=>nu hF 1 rfl rfl rfl fun a hF=>nu hF 2 rfl rfl rfl fun a hF=>nu hF 3 rfl rfl rfl fun a hF=>nu hF 4 rfl rfl rfl fun a hF=>oV hF (aX (hF.at 5 rfl) aq) rfl fun a hF=>oE hF 0 rfl rfl fun a hF=>nr ?_
  have bel:=st.bel
  refine rt Tryz.results80 hF 0 rfl ?_
  refine⟨eX ?_,bel⟩
  unfold wiB
  first|exact(decide_eq_true (by omega)).symm |exact(decide_eq_false (by omega)).symm |exact decide_eq_decide.2 (by omega)
theorem qu (n d:Int) (w:World):
 CV 80 #[iv n,iv d,iv 180] w (.bool (wiB 180 n d)):=by
 refine gs3 (nt:=28) Tryz.func80 rfl rfl rfl fun a st hF=>wq ?_
 refine oC hF rfl fun a hF=>nq<|oM hF 2 rfl rfl fun a hF=>?_
 by_cases hc1:1<=d
 ·refine oV hF (ao aq hF.o ah (aO (bp (c:=true) (aA hc1)) (by simp))) rfl fun a hF=>oM hF 0 rfl rfl fun a hF=>og hF (aC (hF.at 5 rfl)) 0 rfl rfl rfl fun a hF=>?_
  by_cases hc2:d<=3600
  ·refine og hF (ao hF.o aq ah (aO (bp (c:=true) (aA hc2)) (by simp))) 1 rfl rfl rfl fun a hF=>oV hF (aB hF.q hF.o) rfl fun a hF=>oM hF 0 rfl rfl fun a hF=>og hF (aC (hF.at 10 rfl)) 0 rfl rfl rfl fun a hF=>og hF (dc hF.o (wu (by omega) (by omega))) 1 rfl rfl rfl fun a hF=>og hF (aC (hF.at 11 rfl)) 2 rfl rfl rfl fun a hF=>og hF (ao hF.p hF.o ah (eQ (by omega) (by omega))) 3 rfl rfl rfl fun a hF=>og hF (aC (hF.at 12 rfl)) 4 rfl rfl rfl fun a hF=>?_
   by_cases hc3:(-180)*d<=n
   ·refine og hF (ao hF.p hF.o ah (aO (bp (c:=true) (aA hc3)) (by simp))) 5 rfl rfl rfl fun a hF=>oV hF (aB (hF.at 6 rfl) hF.o) rfl fun a hF=>oM hF 0 rfl rfl fun a hF=>og hF (aC (hF.at 16 rfl)) 0 rfl rfl rfl fun a hF=>og hF (aC (hF.at 19 rfl)) 1 rfl rfl rfl fun a hF=>og hF (aC (hF.at 19 rfl)) 2 rfl rfl rfl fun a hF=>og hF (ao hF.p hF.o ah (eQ (by omega) (by omega))) 3 rfl rfl rfl fun a hF=>?_
    by_cases hc4:n<=180*d
    ·refine og hF (ao (hF.at 3 rfl) hF.o ah (aO (bp (c:=true) (aA hc4)) (by simp))) 4 rfl rfl rfl fun a hF=>oV hF (aB (hF.at 5 rfl) hF.o) rfl fun a hF=>oE hF 0 rfl rfl fun a hF=>nr ?_
     have bel:=st.bel
     refine rt Tryz.results80 hF 0 rfl ?_
     refine⟨eX ?_,bel⟩
     unfold wiB
     first|exact(decide_eq_true (by omega)).symm |exact(decide_eq_false (by omega)).symm |exact decide_eq_decide.2 (by omega)
    ·refine og hF (ao (hF.at 3 rfl) hF.o ah (aO (bp (c:=false) (aK hc4)) (by simp))) 4 rfl rfl rfl fun a hF=>oV hF (aB (hF.at 5 rfl) hF.o) rfl fun a hF=>oE hF 0 rfl rfl fun a hF=>nr ?_
     have bel:=st.bel
     refine rt Tryz.results80 hF 0 rfl ?_
     refine⟨eX ?_,bel⟩
     unfold wiB
     first|exact(decide_eq_true (by omega)).symm |exact(decide_eq_false (by omega)).symm |exact decide_eq_decide.2 (by omega)
   ·refine og hF (ao hF.p hF.o ah (aO (bp (c:=false) (aK hc3)) (by simp))) 5 rfl rfl rfl fun a hF=>oV hF (aB (hF.at 6 rfl) hF.o) rfl fun a hF=>oM hF 0 rfl rfl fun a hF=>nu hF 0 rfl rfl rfl fun a hF=>nu hF 1 rfl rfl rfl fun a hF=>nu hF 2 rfl rfl rfl fun a hF=>nu hF 3 rfl rfl rfl fun a hF=>?_
    refine nu hF 4 rfl rfl rfl fun a hF=>oV hF (aX (hF.at 5 rfl) aq) rfl fun a hF=>oE hF 0 rfl rfl fun a hF=>nr ?_
    have bel:=st.bel
    refine rt Tryz.results80 hF 0 rfl ?_
    refine⟨eX ?_,bel⟩
    unfold wiB
    first|exact(decide_eq_true (by omega)).symm |exact(decide_eq_false (by omega)).symm |exact decide_eq_decide.2 (by omega)
  ·refine og hF (ao hF.o aq ah (aO (bp (c:=false) (aK hc2)) (by simp))) 1 rfl rfl rfl fun a hF=>oV hF (aB hF.q hF.o) rfl fun a hF=>oM hF 0 rfl rfl fun a hF=>nu hF 0 rfl rfl rfl fun a hF=>nu hF 1 rfl rfl rfl fun a hF=>nu hF 2 rfl rfl rfl fun a hF=>nu hF 3 rfl rfl rfl fun a hF=>nu hF 4 rfl rfl rfl fun a hF=>nu hF 5 rfl rfl rfl fun a hF=>oV hF (aX (hF.at 6 rfl) aq) rfl fun a hF=>oM hF 0 rfl rfl fun a hF=>nu hF 0 rfl rfl rfl fun a hF=>nu hF 1 rfl rfl rfl fun a hF=>nu hF 2 rfl rfl rfl fun a hF=>?_
   refine nu hF 3 rfl rfl rfl fun a hF=>nu hF 4 rfl rfl rfl fun a hF=>oV hF (aX (hF.at 5 rfl) aq) rfl fun a hF=>oE hF 0 rfl rfl fun a hF=>nr ?_
   have bel:=st.bel
   refine rt Tryz.results80 hF 0 rfl ?_
   refine⟨eX ?_,bel⟩
   unfold wiB
   first|exact(decide_eq_true (by omega)).symm |exact(decide_eq_false (by omega)).symm |exact decide_eq_decide.2 (by omega)
 ·refine oV hF (ao aq hF.o ah (aO (bp (c:=false) (aK hc1)) (by simp))) rfl fun a hF=>oM hF 0 rfl rfl fun a hF=>nu hF 0 rfl rfl rfl fun a hF=>nu hF 1 rfl rfl rfl fun a hF=>oV hF (aX hF.q aq) rfl fun a hF=>oM hF 0 rfl rfl fun a hF=>nu hF 0 rfl rfl rfl fun a hF=>nu hF 1 rfl rfl rfl fun a hF=>nu hF 2 rfl rfl rfl fun a hF=>nu hF 3 rfl rfl rfl fun a hF=>nu hF 4 rfl rfl rfl fun a hF=>nu hF 5 rfl rfl rfl fun a hF=>oV hF (aX (hF.at 6 rfl) aq) rfl fun a hF=>oM hF 0 rfl rfl fun a hF=>?_
  refine nu hF 0 rfl rfl rfl fun a hF=>nu hF 1 rfl rfl rfl fun a hF=>nu hF 2 rfl rfl rfl fun a hF=>nu hF 3 rfl rfl rfl fun a hF=>nu hF 4 rfl rfl rfl fun a hF=>oV hF (aX (hF.at 5 rfl) aq) rfl fun a hF=>oE hF 0 rfl rfl fun a hF=>nr ?_
  have bel:=st.bel
  refine rt Tryz.results80 hF 0 rfl ?_
  refine⟨eX ?_,bel⟩
  unfold wiB
  first|exact(decide_eq_true (by omega)).symm |exact(decide_eq_false (by omega)).symm |exact decide_eq_decide.2 (by omega)
theorem kO (xa xb xc xd:Int) (w:World):
 CV 43 #[.agg #[iv xa,iv xb,iv xc,iv xd]] w (iv (plE xa xb xc xd)):=by
 refine gs1 (nt:=17) Tryz.func43 rfl rfl rfl fun a st hF=>wq<|bx st hF 0 rfl rfl fun g1 w1 a st hF=>?_
 refine oC hF rfl fun a hF=>ns<|wq<|oV hF (az hF.p (kL (p:=0) rfl)) rfl fun a hF=>oV hF (aw hF.o (bG (v:= iv xa) (st.bk 0 rfl) rfl)) rfl fun a hF=>oV hF (az (hF.at 3 rfl) (qG (p:=1) rfl)) rfl fun a hF=>oV hF (aw hF.o (bG (v:= iv xb) (st.bk 0 rfl) rfl)) rfl fun a hF=>cX st hF (rk E3 (sM hF.q hF.o aq)) (rF xa xb _) rfl fun w2 a st hF=>?_
 by_cases hc3:wiB 60 xa xb=true
 ·refine oV hF (dc (Eq.trans hF.o (congrArg Value.bool hc3)) (b7 _ false rfl)) rfl fun a hF=>oM hF 0 rfl rfl fun a hF=>og hF (az (hF.at 8 rfl) (kj (p:=2) rfl)) 0 rfl rfl rfl fun a hF=>og hF (aw hF.o (bG (v:= iv xc) (st.bk 0 rfl) rfl)) 1 rfl rfl rfl fun a hF=>og hF (az (hF.at 10 rfl) (qH (p:=3) rfl)) 2 rfl rfl rfl fun a hF=>og hF (aw hF.o (bG (v:= iv xd) (st.bk 0 rfl) rfl)) 3 rfl rfl rfl fun a hF=>?_
  refine S.callxg st hF (aJ rfl rfl (hF.at 4 rfl) rfl) (rk E3 (sM hF.q hF.o aq)) (qu xc xd _) rfl rfl rfl fun w4 a st hF=>?_
  by_cases hc5:wiB 180 xc xd=true
  ·refine og hF (dc (Eq.trans hF.o (congrArg Value.bool hc5)) (b7 _ false rfl)) 5 rfl rfl rfl fun a hF=>oV hF (aX (hF.at 6 rfl) hF.o) rfl fun a hF=>E.nil<|wp_cond_false hF.o<|wp_skip<|E.norm<|wq ?_
   refine oS hF (a5 aq) rfl fun a hF=>nr ?_
   have bel:=st.bel
   refine rt Tryz.results43 hF 0 rfl ?_
   refine⟨bS ?_,bel⟩
   unfold plE
   rw[if_pos ⟨by assumption,by assumption⟩]
  ·refine og hF (dc (Eq.trans hF.o (congrArg Value.bool (eq_false_of_ne_true hc5))) (b7 _ true rfl)) 5 rfl rfl rfl fun a hF=>oV hF (aX (hF.at 6 rfl) hF.o) rfl fun a hF=>E.nil<|wp_cond_true hF.o<|wq ?_
   refine oS hF (a5 aq) rfl fun a hF=>nr ?_
   have bel:=st.bel
   refine rt Tryz.results43 hF 0 rfl ?_
   refine⟨bS ?_,bel⟩
   unfold plE
   rw[if_neg (by rintro⟨e1,e2⟩;simp_all)]
 ·refine oV hF (dc (Eq.trans hF.o (congrArg Value.bool (eq_false_of_ne_true hc3))) (b7 _ true rfl)) rfl fun a hF=>oM hF 0 rfl rfl fun a hF=>nu hF 0 rfl rfl rfl fun a hF=>nu hF 1 rfl rfl rfl fun a hF=>nu hF 2 rfl rfl rfl fun a hF=>nu hF 3 rfl rfl rfl fun a hF=>nu hF 4 rfl rfl rfl fun a hF=>nu hF 5 rfl rfl rfl fun a hF=>oV hF (aB (hF.at 6 rfl) aq) rfl fun a hF=>E.nil<|wp_cond_true hF.o<|wq ?_
  refine oS hF (a5 aq) rfl fun a hF=>nr ?_
  have bel:=st.bel
  refine rt Tryz.results43 hF 0 rfl ?_
  refine⟨bS ?_,bel⟩
  unfold plE
  rw[if_neg (by rintro⟨e1,e2⟩;simp_all)]
theorem xk {x m:Rat} (h:0<m):rmod x m=x-m*(((x/m).floor :Int):Rat):=by unfold rmod;rw[if_neg (by grind)]
theorem xp (t:Rat) {lat:Rat} (lon:Rat) {qd sg:Int} (hq:qd=1/\sg=1\/qd=3/\sg= -1) (h0: -60<=lat) (h1:lat<=60):985/1000<=cp (t+((1:Int):Rat)) lat lon qd sg-cp t lat lon qd sg/\cp (t+((1:Int):Rat)) lat lon qd sg-cp t lat lon qd sg<=1015/1000:=by
 rcases hq with⟨rfl,rfl⟩|⟨rfl,rfl⟩
 ·exact yp t lon h0 h1
 have e:=bM (tR t)
 have d:=bM (qJ t h0 h1)
 have s:=gw t
 have s':=gw (t+((1:Int):Rat))
 have k:=lR
 unfold cp
 rw[show((3:Int):Rat)/((4:Int):Rat)=3/4 by decide+kernel,show((-1:Int):Rat)= -1 from rfl,Rat.intCast_one] at*
 generalize fe (t+1) lat=d2 at*
 generalize fe t lat=d1 at*
 generalize dS (t+1)*fi (t+1)=s2 at*
 generalize dS t*fi t=s1 at*
 generalize fQ (t+1)=e2 at*
 generalize fQ t=e1 at*
 have m:=dX (a:=3/4*(111/100-87/100)+27/10) (b:=27703/10000000) (x:=(s2*(3/4)+ -1*d2)-(s1*(3/4)+ -1*d1)) (y:=kap) (by grind) (by grind) (by grind) (by grind) (by grind) k.2
 constructor <;> grind
theorem xW (t d:Rat) {lat:Rat} (lon:Rat) {qd sg:Int} (hq:qd=1/\sg=1\/qd=3/\sg= -1) (h0: -60<=lat) (h1:lat<=60):d-308/1000<=cp (t+d) lat lon qd sg-cp t lat lon qd sg:=by
 have e:=nU t
 have e':=nU (t+d)
 have g:=mu t h0 h1
 have g':=mu (t+d) h0 h1
 have s:=gw t
 have s':=gw (t+d)
 have k:=lR
 unfold cp
 generalize fe (t+d) lat=d2 at*
 generalize fe t lat=d1 at*
 generalize dS (t+d)*fi (t+d)=s2 at*
 generalize dS t*fi t=s1 at*
 generalize fQ (t+d)=e2 at*
 generalize fQ t=e1 at*
 rcases hq with⟨rfl,rfl⟩|⟨rfl,rfl⟩
 ·rw[show((1:Int):Rat)/((4:Int):Rat)=1/4 by decide+kernel,Rat.intCast_one] at*
  have m:=dX (a:=1/4*(111/100-87/100)+106) (b:=27703/10000000) (x:=(s2*(1/4)+1*d2)-(s1*(1/4)+1*d1)) (y:=kap) (by grind) (by grind) (by grind) (by grind) (by grind) k.2
  grind
 ·rw[show((3:Int):Rat)/((4:Int):Rat)=3/4 by decide+kernel,show((-1:Int):Rat)= -1 from rfl] at*
  have m:=dX (a:=3/4*(111/100-87/100)+106) (b:=27703/10000000) (x:=(s2*(3/4)+ -1*d2)-(s1*(3/4)+ -1*d1)) (y:=kap) (by grind) (by grind) (by grind) (by grind) (by grind) k.2
  grind
theorem CD {lon:Rat} (h0: -180<=lon) (h1:lon<=180): -(3/10)<=km lon/\km lon<=72/100:=by
 unfold km
 rw[show((45461:Int):Rat)/((600:Int):Rat)=45461/600 by decide+kernel,show((1:Int):Rat)/((360:Int):Rat)=1/360 by decide+kernel]
 constructor <;> grind
theorem xl (t:Rat) {lat lon:Rat} {qd sg:Int} (hq:qd=1/\sg=1\/qd=3/\sg= -1) (h0: -60<=lat) (h1:lat<=60) (l0: -180<=lon) (l1:lon<=180):t-3/10<=cp t lat lon qd sg/\cp t lat lon qd sg<=t+17/10:=by
 have e:=nU t
 have g:=mu t h0 h1
 have s:=gw t
 have k:=lR
 have c:=CD l0 l1
 unfold cp
 generalize fe t lat=d1 at*
 generalize dS t*fi t=s1 at*
 generalize fQ t=e1 at*
 rcases hq with⟨rfl,rfl⟩|⟨rfl,rfl⟩
 ·rw[show((1:Int):Rat)/((4:Int):Rat)=1/4 by decide+kernel,Rat.intCast_one] at*
  have m:=dX (a:=1/4*(111/100)+53) (b:=27703/10000000) (x:=s1*(1/4)+1*d1) (y:=kap) (by grind) (by grind) (by grind) (by grind) (by grind) k.2
  constructor <;> grind
 ·rw[show((3:Int):Rat)/((4:Int):Rat)=3/4 by decide+kernel,show((-1:Int):Rat)= -1 from rfl] at*
  have m:=dX (a:=3/4*(111/100)+53) (b:=27703/10000000) (x:=s1*(3/4)+ -1*d1) (y:=kap) (by grind) (by grind) (by grind) (by grind) (by grind) k.2
  constructor <;> grind
def riV (lat lon:Rat) (n:Int):Rat:=cO (cp ((n:Int):Rat) lat lon 1 1)
theorem EL (n:Int):(((n+32:Int)):Rat)=((n:Int):Rat)+32:=by rw[Rat.intCast_add];rfl
theorem oH {lat:Rat} (lon:Rat) (h0: -60<=lat) (h1:lat<=60) (n:Int):98499/100000<=riV lat lon (n+1)-riV lat lon n/\riV lat lon (n+1)-riV lat lon n<=101501/100000/\3169/100+1/1000<=riV lat lon (n+32)-riV lat lon n:=by
 have a:=xp ((n:Int):Rat) (qd:=1) (sg:=1) lon (.inl ⟨rfl,rfl⟩) h0 h1
 have b:=xW ((n:Int):Rat) 32 (qd:=1) (sg:=1) lon (.inl ⟨rfl,rfl⟩) h0 h1
 unfold riV
 rw[eC,EL]
 rw[Rat.intCast_one] at a
 have g1:=kN (cp ((n:Int):Rat) lat lon 1 1)
 have g2:=kN (cp (((n:Int):Rat)+1) lat lon 1 1)
 have g3:=kN (cp (((n:Int):Rat)+32) lat lon 1 1)
 refine⟨?_,?_,?_⟩ <;> grind
def kaV (t:Rat):Int:=(cd t*(1/30)).floor
theorem iJ (t:Rat):30*((kaV t:Int):Rat)<=cd t/\cd t<30*((kaV t:Int):Rat)+30:=by
 have a:=ec (cd t*(1/30))
 have b:=eK (cd t*(1/30))
 unfold kaV
 constructor <;> grind
theorem kt {t:Rat} {k:Int} (h:30*((k:Int):Rat)<=cd t):k<=kaV t:=Rat.le_floor_iff.2 (by grind)
theorem lW {t:Rat} {k:Int} (h:cd t<30*((k:Int):Rat)):kaV t<k:=Rat.floor_lt_iff.2 (by grind)
theorem BK (t:Rat):prt (cK t) 12=kaV t%12:=by
 rw[qK,pS (by decide),show((12:Int):Rat)/((360:Int):Rat)=1/30 by decide+kernel]
 rfl
def yU (t:Rat):Rat:=(t-kli)/pyr-cK t*(((1:Int):Rat)/((360:Int):Rat))
def EB (t:Rat):Int:=(yU t+((1:Int):Rat)/((2:Int):Rat)).floor
theorem qS:(kli-cre)/pyr=((1955880000:Int):Rat):=by decide+kernel
theorem BN (t:Rat):(cd t/((360:Int):Rat)).floor =kaV t/12:=by
 have k:=iJ t
 have e:=Int.mul_ediv_add_emod (kaV t) 12
 have m0:=Int.emod_nonneg (kaV t) (b:=12) (by omega)
 have m1:=Int.emod_lt_of_pos (kaV t) (b:=12) (by omega)
 have q0:12*(kaV t/12)<=kaV t:=by omega
 have q1:kaV t<=12*(kaV t/12)+11:=by omega
 have c0:=Rat.intCast_le_intCast.2 q0
 have c1:=Rat.intCast_le_intCast.2 q1
 rw[Rat.intCast_add,Rat.intCast_mul] at c1
 rw[Rat.intCast_mul] at c0
 rw[show((12:Int):Rat)=12 from rfl] at c0 c1
 rw[show((11:Int):Rat)=11 from rfl] at c1
 have r:((360:Int):Rat)=360:=rfl
 have p:(0:Rat)<360:=by decide+kernel
 have a:kaV t/12<=(cd t/((360:Int):Rat)).floor :=Rat.le_floor_iff.2 (Rat.not_lt.1 fun h=>by rw[r,Rat.div_lt_iff p] at h;grind)
 have b:(cd t/((360:Int):Rat)).floor <kaV t/12+1:=Rat.floor_lt_iff.2 (by rw[r,Rat.div_lt_iff p,Rat.intCast_add,Rat.intCast_one];grind)
 omega
theorem E4 (t:Rat):EB t=kaV t/12-1955880000:=by
 have n:=bM (ev t)
 rw[show((22:Int):Rat)/((10:Int):Rat)=22/10 by decide+kernel] at n
 have y:(t-kli)/pyr=aQ t pyr-((1955880000:Int):Rat):=by
  rw[<-qS]
  unfold aQ
  have:=gP
  grind
 have x:yU t=b6 t/360+(((kaV t/12-1955880000:Int)):Rat):=by
  unfold yU
  rw[y,qK,xk (by decide+kernel),BN,Rat.intCast_sub]
  unfold cd
  rw[show((1:Int):Rat)/((360:Int):Rat)=1/360 by decide+kernel,show((360:Int):Rat)=360 from rfl]
  grind
 unfold EB
 rw[x,Rat.add_assoc,Rat.add_comm (((kaV t/12-1955880000:Int)):Rat),<-Rat.add_assoc,Rat.floor_add_intCast]
 have f:(b6 t/360+((1:Int):Rat)/((2:Int):Rat)).floor =0:=by
  rw[show((1:Int):Rat)/((2:Int):Rat)=1/2 by decide+kernel]
  have a:(0:Int)<=(b6 t/360+1/2).floor :=Rat.le_floor_iff.2 (by rw[Rat.intCast_zero];grind)
  have b:(b6 t/360+1/2).floor <1:=Rat.floor_lt_iff.2 (by rw[Rat.intCast_one];grind)
  omega
 rw[f]
 omega
theorem da {t u:Rat} (h:t<=u):9471/10000*(u-t)<=cd u-cd t/\cd u-cd t<=10242/10000*(u-t):=by
 have:=rp t (d:=u-t) (by grind)
 rw[show t+(u-t)=u by grind] at this
 exact this
theorem A4 {t u:Rat} (h:t<=u):kaV t<=kaV u:=by
 have s:=da h
 have b:=iJ t
 exact kt (by grind)
theorem C9 {t u:Rat} (h:t+27<=u) (g:u<=t+32):kaV t<=kaV u/\kaV u<=kaV t+2:=by
 have s:=da (t:=t) (u:=u) (by grind)
 have b:=iJ t
 refine⟨A4 (by grind),?_⟩
 have c:kaV u<kaV t+3:=lW (by rw[Rat.intCast_add,show((3:Int):Rat)=3 from rfl];grind)
 omega
theorem q9 {t u:Rat} (h:t+55<=u):kaV t<kaV u:=by
 have s:=da (t:=t) (u:=u) (by grind)
 have b:=iJ t
 have c:kaV t+1<=kaV u:=kt (by rw[Rat.intCast_add,Rat.intCast_one];grind)
 omega
theorem FR {t:Rat} (h0: -3900010<=t) (h1:t<=3900010):12*(1955880000+3179-11000)<=kaV t/\kaV t<12*(1955880000+3179+11000):=by
 have n:=bM (ev t)
 rw[show((22:Int):Rat)/((10:Int):Rat)=22/10 by decide+kernel] at n
 have p:=gP
 have a:(-3900010-cre)/pyr<=aQ t pyr:=by
  unfold aQ
  exact Rat.not_lt.1 fun q=>by rw[Rat.div_lt_iff p,Rat.div_mul_cancel (by grind)] at q;grind
 have b:aQ t pyr<=(3900010-cre)/pyr:=by
  unfold aQ
  exact Rat.not_lt.1 fun q=>by rw[Rat.div_lt_iff p,Rat.div_mul_cancel (by grind)] at q;grind
 have a2:1955880000+3179-10999<=(-3900010-cre)/pyr:=by decide+kernel
 have b2:(3900010-cre)/pyr<=1955880000+3179+10999:=by decide+kernel
 constructor
 ·refine kt ?_
  unfold cd
  rw[show((360:Int):Rat)=360 from rfl,show((12*(1955880000+3179-11000):Int):Rat)=12*(1955880000+3179-11000) by decide+kernel]
  grind
 ·refine lW ?_
  unfold cd
  rw[show((360:Int):Rat)=360 from rfl,show((12*(1955880000+3179+11000):Int):Rat)=12*(1955880000+3179+11000) by decide+kernel]
  grind
def fR (s:Int):Rat:=pyr*(((s:Int):Rat)/((12:Int):Rat))+((-1132959:Int):Rat)
theorem t7 (s:Int):cd (fR s)=30*(((s+23470560000:Int)):Rat)-b6 (fR s):=by
 have e:aQ (fR s) pyr=((s:Int):Rat)/((12:Int):Rat)+((1955880000:Int):Rat):=by
  rw[<-qS]
  unfold aQ fR kli
  have:=gP
  grind
 unfold cd
 rw[e,show((360:Int):Rat)=360 from rfl,show((12:Int):Rat)=12 from rfl,Rat.intCast_add,show((1955880000:Int):Rat)=1955880000 from rfl,show((23470560000:Int):Rat)=23470560000 from rfl]
 grind
theorem vO {a b c d:Int} (h:bz a b c d):plE a b c d=0:=by unfold plE;rw[if_pos ⟨decide_eq_true ⟨h.b0,h.b1,h.a0,h.a1⟩,decide_eq_true ⟨h.d0,h.d1,h.c0,h.c1⟩⟩]
theorem D4:(Tryz.prog.info? 23).map (·.size)=some 4:=by kernel_rfl
theorem EF:(Tryz.prog.info? 23).bind (·.zero)=some (.agg #[iv 0,iv 0,iv 0,iv 0]):=by kernel_rfl
theorem yQ {w:World} {g o p:Nat} (hp:o+0=p):(Instr.fieldAt 23 (.pointer (some ⟨g,o,none⟩)) 0).run Tryz.prog w= .ok (.pointer (some ⟨g,p,none⟩)) w:=bv Tryz.underlying23 rfl rfl cw rfl p hp
theorem As {w:World} {g o p:Nat} (hp:o+1=p):(Instr.fieldAt 23 (.pointer (some ⟨g,o,none⟩)) 1).run Tryz.prog w= .ok (.pointer (some ⟨g,p,none⟩)) w:=bv Tryz.underlying23 rfl rfl cw rfl p hp
theorem zk {w:World} {g o p:Nat} (hp:o+2=p):(Instr.fieldAt 23 (.pointer (some ⟨g,o,none⟩)) 2).run Tryz.prog w= .ok (.pointer (some ⟨g,p,none⟩)) w:=bv Tryz.underlying23 rfl rfl cw rfl p hp
theorem AH {w:World} {g o p:Nat} (hp:o+3=p):(Instr.fieldAt 23 (.pointer (some ⟨g,o,none⟩)) 3).run Tryz.prog w= .ok (.pointer (some ⟨g,p,none⟩)) w:=bv Tryz.underlying23 rfl rfl cw rfl p hp
theorem j5:Ty Tryz.prog 23 4 [iv 0,iv 0,iv 0,iv 0]:=⟨⟨_,Tryz.underlying23,rfl⟩,D4,EF⟩
theorem ww (v:Value) (z n:Int) (w:World) (h:Wz w v z) (e:z=n) (b0: -9223372036854775808<=n) (b1:n<=9223372036854775807):CV 106 #[v] w (.tuple #[iv n,.bool true]):=by
 subst e
 have h':=tM v z w h
 rw[iV b0 b1,iT b0 b1] at h'
 exact h'
theorem jH (v1:Value) (qt:Rat) (k:Nat) (w:World) (hT:a8 w) (h1:Rq w v1 qt) (hl:au qt k) (hk:k<=100) (hk0: -1000000000000<=kaV qt) (hk1:kaV qt<=1000000000000):
 CV 88 #[v1] w (iv (kaV qt/12-1955880000)):=by
 refine gs1 (nt:=23) Tryz.func88 rfl rfl rfl fun a st hF=>wq ?_
 obtain⟨r2,rfl⟩:=Rq.fo h1
 refine bx st hF 0 rfl rfl fun g1 w1 a st hF=>?_
 refine oC hF rfl fun a hF=>ns<|gz1 6 aP st hF aa [6,7,8,9,10,3] [_,_,_,_,_,_] (by decide+kernel) rfl rfl rfl ⟨rb st aa 1 0 rfl,ck st k52 rfl fun _ s=>cD,ck st eh rfl fun _ s _ x7=>ep ⟨(h1.below s.bel),hl⟩ x7,ck st k60 rfl fun _ s=>jZ,ck st kH rfl fun _ s _ x8 _ x9=>kv x8 x9,ra aa rfl rfl,trivial⟩ fun r6 g3 w7 a st hF=>ns ?_
 refine E.rg 13 aP hF [12,13,14,15,16,17,18,19,11,20,21,4,5] [_,_,_,_,_,_,_,_,.ex (.tuple #[iv (kaV qt/12-1955880000),.bool true]),.ex (iv (kaV qt/12-1955880000)),.ex (.bool true),.ex (iv (kaV qt/12-1955880000)),.ex (.bool true)] (by decide+kernel) rfl rfl rfl ⟨rb st aa 0 0 rfl,rb st aa 3 1 rfl,ck st vH rfl fun _ s=>yq (hT.below s.bel) ⟨(h1.below s.bel),hl⟩,ck st k62 rfl fun _ s=>cE,ck st k61 rfl fun _ s _ x14 _ x15=>cn x14 x15,ck st eh rfl fun _ s _ x16=>ep (s.f 0 rfl) x16,ck st Gh rfl fun _ s _ x17=>cQ (vL _ ((((qt)-((((-1132959):Int):Rat)))/(pyr))-((cK (qt))*(((1:Int):Rat)/((360:Int):Rat)))) (((k+2+1)+2)+((3*k+100)+2)+1) _ x17.1 x17.2 (by omega)) (xg x17.2),ck st D9 rfl fun _ s _ x18=>a9 (ww _ (Rat.floor (((((qt)-((((-1132959):Int):Rat)))/(pyr))-((cK (qt))*(((1:Int):Rat)/((360:Int):Rat))))+((1:Int):Rat)/((2:Int):Rat))) (kaV qt/12-1955880000) _ (Wc.wz x18.1) (E4 qt) (by omega) (by omega)),(by intro a' w' hF' hb hd;have e19:=tE hd 0 rfl;exact dv0 (aC e19) rfl rfl rfl),(by intro a' w' hF' hb hd;have e11:=tE hd 0 rfl;exact dv0 (av (v:= iv (kaV qt/12-1955880000)) e11 rfl) rfl rfl rfl),(by intro a' w' hF' hb hd;have e11:=tE hd 0 rfl;exact dv0 (av (v:= .bool true) e11 rfl) rfl rfl rfl),(by intro a' w' hF' hb hd;have e20:=tE hd 0 rfl;exact dv0 (a5 e20) rfl rfl rfl),(by intro a' w' hF' hb hd;have e21:=tE hd 0 rfl;exact dv0 (a5 e21) rfl rfl rfl),trivial⟩ ?_
 intro a w8 hF bb hall
 replace st:=st.to bb
 replace hF:=rE hall hF 11 rfl rfl
 clear hall bb
 refine nq ?_
 refine oM hF 0 rfl rfl fun a hF=>oE hF 0 rfl rfl fun a hF=>nr ?_
 have bel:=st.bel
 refine rt Tryz.results88 hF 0 rfl ?_
 exact⟨rfl,bel⟩
theorem nA (n:Int) (w:World) (hn0: -3000000<=n) (hn1:n<=3000000):
 CV 44 #[iv n] w (.bool true):=by
 refine gs1 (nt:=9) Tryz.func44 rfl rfl rfl fun a st hF=>wq ?_
 refine oC hF rfl fun a hF=>nq<|oM hF 1 rfl rfl fun a hF=>?_
 by_cases hc1:(-3000000)<=n
 ·refine oT hF 0 (jm (c:=true) (aA hc1)) rfl rfl fun a hF=>oM hF 0 rfl rfl fun a hF=>og hF (aC (hF.at 4 rfl)) 0 rfl rfl rfl fun a hF=>?_
  by_cases hc2:n<=3000000
  ·refine og hF (ao hF.o aq ah (aO (bp (c:=true) (aA hc2)) (by simp))) 1 rfl rfl rfl fun a hF=>oV hF (aB hF.q hF.o) rfl fun a hF=>oE hF 0 rfl rfl fun a hF=>nr ?_
   have bel:=st.bel
   refine rt Tryz.results44 hF 0 rfl ?_
   exact⟨rfl,bel⟩
  ·(exfalso;omega)
 ·(exfalso;omega)
theorem pQ (n:Int) (w:World) (hx:¬(-3000000<=n/\n<=3000000)):
 CV 44 #[iv n] w (.bool false):=by
 refine gs1 (nt:=9) Tryz.func44 rfl rfl rfl fun a st hF=>wq ?_
 refine oC hF rfl fun a hF=>nq<|oM hF 1 rfl rfl fun a hF=>?_
 by_cases hc1:(-3000000)<=n
 ·refine oT hF 0 (jm (c:=true) (aA hc1)) rfl rfl fun a hF=>oM hF 0 rfl rfl fun a hF=>og hF (aC (hF.at 4 rfl)) 0 rfl rfl rfl fun a hF=>?_
  by_cases hc2:n<=3000000
  ·(exfalso;omega)
  ·refine og hF (ao hF.o aq ah (aO (bp (c:=false) (aK hc2)) (by simp))) 1 rfl rfl rfl fun a hF=>oV hF (aB hF.q hF.o) rfl fun a hF=>oE hF 0 rfl rfl fun a hF=>nr ?_
   have bel:=st.bel
   refine rt Tryz.results44 hF 0 rfl ?_
   exact⟨rfl,bel⟩
 ·refine oT hF 0 (jm (c:=false) (aK hc1)) rfl rfl fun a hF=>oM hF 0 rfl rfl fun a hF=>nu hF 0 rfl rfl rfl fun a hF=>nu hF 1 rfl rfl rfl fun a hF=>oV hF (aX hF.q aq) rfl fun a hF=>oE hF 0 rfl rfl fun a hF=>nr ?_
  have bel:=st.bel
  refine rt Tryz.results44 hF 0 rfl ?_
  exact⟨rfl,bel⟩
theorem yx (v1:Value) (qt:Rat) (k:Nat) (n:Int) (w:World) (h1:Rq w v1 qt) (hl:au qt k) (hk:k<=10000) (e:qt.floor=n) (h0: -9223372036854775808<=n) (h3:n<=9223372036854775807):CV 63 #[v1] w (.tuple #[iv n,.bool true]):=by
 subst e
 have h:=go v1 _ k w h1 hl hk
 rwa[iV h0 h3,iT h0 h3] at h
end Go.Proofs.YtddiipaomejcfaaGreatDoor
