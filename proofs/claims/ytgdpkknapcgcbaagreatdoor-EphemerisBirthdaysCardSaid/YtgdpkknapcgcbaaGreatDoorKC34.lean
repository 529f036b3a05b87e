import Derived.Test.YtgdpkknapcgcbaaGreatDoorKC28
import Derived.Test.YtgdpkknapcgcbaaGreatDoorKC32
namespace Go.Proofs.YtgdpkknapcgcbaaGreatDoor
open Go.RowKit
set_option maxRecDepth 100000
set_option linter.unusedVariables false
set_option maxHeartbeats 8000000
theorem xX (n d:Int) (w:World):
 CV 89 #[iv n,iv d,iv 60] w (.bool (wiB 60 n d)):=by
 refine gs3 (nt:=28) Tryz.func89 rfl rfl rfl fun a st hF=>wq ?_
 refine oC hF rfl fun a hF=>nq<|oM hF 2 rfl rfl fun a hF=>?_
 by_cases hc1:1<=d
 ·refine oV hF (aq ao hF.o aa (aO (cg (c:=true) (aI hc1)) (by simp))) rfl fun a hF=>oM hF 0 rfl rfl fun a hF=>og hF (aD (hF.at 5 rfl)) 0 rfl rfl rfl fun a hF=>?_
  by_cases hc2:d<=3600
  ·refine og hF (aq hF.o ao aa (aO (cg (c:=true) (aI hc2)) (by simp))) 1 rfl rfl rfl fun a hF=>oV hF (aK hF.q hF.o) rfl fun a hF=>oM hF 0 rfl rfl fun a hF=>og hF (aD (hF.at 10 rfl)) 0 rfl rfl rfl fun a hF=>og hF (dF hF.o (uM (by omega) (by omega))) 1 rfl rfl rfl fun a hF=>og hF (aD (hF.at 11 rfl)) 2 rfl rfl rfl fun a hF=>og hF (aq hF.p hF.o aa (gT (by omega) (by omega))) 3 rfl rfl rfl fun a hF=>og hF (aD (hF.at 12 rfl)) 4 rfl rfl rfl fun a hF=>?_
   by_cases hc3:(-60)*d<=n
   ·refine og hF (aq hF.p hF.o aa (aO (cg (c:=true) (aI hc3)) (by simp))) 5 rfl rfl rfl fun a hF=>oV hF (aK (hF.at 6 rfl) hF.o) rfl fun a hF=>oM hF 0 rfl rfl fun a hF=>og hF (aD (hF.at 16 rfl)) 0 rfl rfl rfl fun a hF=>og hF (aD (hF.at 19 rfl)) 1 rfl rfl rfl fun a hF=>og hF (aD (hF.at 19 rfl)) 2 rfl rfl rfl fun a hF=>og hF (aq hF.p hF.o aa (gT (by omega) (by omega))) 3 rfl rfl rfl fun a hF=>?_
    by_cases hc4:n<=60*d
    ·refine og hF (aq (hF.at 3 rfl) hF.o aa (aO (cg (c:=true) (aI hc4)) (by simp))) 4 rfl rfl rfl fun a hF=>oV hF (aK (hF.at 5 rfl) hF.o) rfl fun a hF=>oE hF 0 rfl rfl fun a hF=>nr ?_
     have bel:=st.bel
     refine rt Tryz.results89 hF 0 rfl ?_
     refine⟨iz ?_,bel⟩
     unfold wiB
     first|exact(decide_eq_true (by omega)).symm |exact(decide_eq_false (by omega)).symm |exact decide_eq_decide.2 (by omega)
    ·refine og hF (aq (hF.at 3 rfl) hF.o aa (aO (cg (c:=false) (aJ hc4)) (by simp))) 4 rfl rfl rfl fun a hF=>oV hF (aK (hF.at 5 rfl) hF.o) rfl fun a hF=>oE hF 0 rfl rfl fun a hF=>nr ?_
     have bel:=st.bel
     refine rt Tryz.results89 hF 0 rfl ?_
     refine⟨iz ?_,bel⟩
     unfold wiB
     first|exact(decide_eq_true (by omega)).symm |exact(decide_eq_false (by omega)).symm |exact decide_eq_decide.2 (by omega)
   ·refine og hF (aq hF.p hF.o aa (aO (cg (c:=false) (aJ hc3)) (by simp))) 5 rfl rfl rfl fun a hF=>oV hF (aK (hF.at 6 rfl) hF.o) rfl fun a hF=>oM hF 0 rfl rfl fun a hF=>nu hF 0 rfl rfl rfl fun a hF=>nu hF 1 rfl rfl rfl fun a hF=>nu hF 2 rfl rfl rfl fun a hF=>nu hF 3 rfl rfl rfl fun a hF=>?_
    refine nu hF 4 rfl rfl rfl fun a hF=>oV hF (aQ (hF.at 5 rfl) ao) rfl fun a hF=>oE hF 0 rfl rfl fun a hF=>nr ?_
    have bel:=st.bel
    refine rt Tryz.results89 hF 0 rfl ?_
    refine⟨iz ?_,bel⟩
    unfold wiB
    first|exact(decide_eq_true (by omega)).symm |exact(decide_eq_false (by omega)).symm |exact decide_eq_decide.2 (by omega)
  ·refine og hF (aq hF.o ao aa (aO (cg (c:=false) (aJ hc2)) (by simp))) 1 rfl rfl rfl fun a hF=>oV hF (aK hF.q hF.o) rfl fun a hF=>oM hF 0 rfl rfl fun a hF=>nu hF 0 rfl rfl rfl fun a hF=>nu hF 1 rfl rfl rfl fun a hF=>nu hF 2 rfl rfl rfl fun a hF=>nu hF 3 rfl rfl rfl fun a hF=>nu hF 4 rfl rfl rfl fun a hF=>nu hF 5 rfl rfl rfl fun a hF=>oV hF (aQ (hF.at 6 rfl) ao) rfl fun a hF=>oM hF 0 rfl rfl fun a hF=>nu hF 0 rfl rfl rfl fun a hF=>nu hF 1 rfl rfl rfl fun a hF=>nu hF 2 rfl rfl rfl fun a hF=>?_
   refine nu hF 3 rfl rfl rfl fun a hF=>nu hF 4 rfl rfl rfl fun a hF=>oV hF (aQ (hF.at 5 rfl) ao) rfl fun a hF=>oE hF 0 rfl rfl fun a hF=>nr ?_
   have bel:=st.bel
   refine rt Tryz.results89 hF 0 rfl ?_
   refine⟨iz ?_,bel⟩
   unfold wiB
   first|exact(decide_eq_true (by omega)).symm |exact(decide_eq_false (by omega)).symm |exact decide_eq_decide.2 (by omega)
 ·refine oV hF (aq ao hF.o aa (aO (cg (c:=false) (aJ hc1)) (by simp))) rfl fun a hF=>oM hF 0 rfl rfl fun a hF=>nu hF 0 rfl rfl rfl fun a hF=>nu hF 1 rfl rfl rfl fun a hF=>oV hF (aQ hF.q ao) rfl fun a hF=>oM hF 0 rfl rfl fun a hF=>nu hF 0 rfl rfl rfl fun a hF=>nu hF 1 rfl rfl rfl fun a hF=>nu hF 2 rfl rfl rfl fun a hF=>nu hF 3 rfl rfl rfl fun a hF=>nu hF 4 rfl rfl rfl fun a hF=>nu hF 5 rfl rfl rfl fun a hF=>oV hF (aQ (hF.at 6 rfl) ao) rfl fun a hF=>oM hF 0 rfl rfl fun a hF=>?_
  refine nu hF 0 rfl rfl rfl fun a hF=>nu hF 1 rfl rfl rfl fun a hF=>nu hF 2 rfl rfl rfl fun a hF=>nu hF 3 rfl rfl rfl fun a hF=>nu hF 4 rfl rfl rfl fun a hF=>oV hF (aQ (hF.at 5 rfl) ao) rfl fun a hF=>oE hF 0 rfl rfl fun a hF=>nr ?_
  have bel:=st.bel
  refine rt Tryz.results89 hF 0 rfl ?_
  refine⟨iz ?_,bel⟩
  unfold wiB
  first|exact(decide_eq_true (by omega)).symm |exact(decide_eq_false (by omega)).symm |exact decide_eq_decide.2 (by omega)
theorem xC (n d:Int) (w:World):
 CV 89 #[iv n,iv d,iv 180] w (.bool (wiB 180 n d)):=by
 refine gs3 (nt:=28) Tryz.func89 rfl rfl rfl fun a st hF=>wq ?_
 refine oC hF rfl fun a hF=>nq<|oM hF 2 rfl rfl fun a hF=>?_
 by_cases hc1:1<=d
 ·refine oV hF (aq ao hF.o aa (aO (cg (c:=true) (aI hc1)) (by simp))) rfl fun a hF=>oM hF 0 rfl rfl fun a hF=>og hF (aD (hF.at 5 rfl)) 0 rfl rfl rfl fun a hF=>?_
  by_cases hc2:d<=3600
  ·refine og hF (aq hF.o ao aa (aO (cg (c:=true) (aI hc2)) (by simp))) 1 rfl rfl rfl fun a hF=>oV hF (aK hF.q hF.o) rfl fun a hF=>oM hF 0 rfl rfl fun a hF=>og hF (aD (hF.at 10 rfl)) 0 rfl rfl rfl fun a hF=>og hF (dF hF.o (uM (by omega) (by omega))) 1 rfl rfl rfl fun a hF=>og hF (aD (hF.at 11 rfl)) 2 rfl rfl rfl fun a hF=>og hF (aq hF.p hF.o aa (gT (by omega) (by omega))) 3 rfl rfl rfl fun a hF=>og hF (aD (hF.at 12 rfl)) 4 rfl rfl rfl fun a hF=>?_
   by_cases hc3:(-180)*d<=n
   ·refine og hF (aq hF.p hF.o aa (aO (cg (c:=true) (aI hc3)) (by simp))) 5 rfl rfl rfl fun a hF=>oV hF (aK (hF.at 6 rfl) hF.o) rfl fun a hF=>oM hF 0 rfl rfl fun a hF=>og hF (aD (hF.at 16 rfl)) 0 rfl rfl rfl fun a hF=>og hF (aD (hF.at 19 rfl)) 1 rfl rfl rfl fun a hF=>og hF (aD (hF.at 19 rfl)) 2 rfl rfl rfl fun a hF=>og hF (aq hF.p hF.o aa (gT (by omega) (by omega))) 3 rfl rfl rfl fun a hF=>?_
    by_cases hc4:n<=180*d
    ·refine og hF (aq (hF.at 3 rfl) hF.o aa (aO (cg (c:=true) (aI hc4)) (by simp))) 4 rfl rfl rfl fun a hF=>oV hF (aK (hF.at 5 rfl) hF.o) rfl fun a hF=>oE hF 0 rfl rfl fun a hF=>nr ?_
     have bel:=st.bel
     refine rt Tryz.results89 hF 0 rfl ?_
     refine⟨iz ?_,bel⟩
     unfold wiB
     first|exact(decide_eq_true (by omega)).symm |exact(decide_eq_false (by omega)).symm |exact decide_eq_decide.2 (by omega)
    ·refine og hF (aq (hF.at 3 rfl) hF.o aa (aO (cg (c:=false) (aJ hc4)) (by simp))) 4 rfl rfl rfl fun a hF=>oV hF (aK (hF.at 5 rfl) hF.o) rfl fun a hF=>oE hF 0 rfl rfl fun a hF=>nr ?_
     have bel:=st.bel
     refine rt Tryz.results89 hF 0 rfl ?_
     refine⟨iz ?_,bel⟩
     unfold wiB
     first|exact(decide_eq_true (by omega)).symm |exact(decide_eq_false (by omega)).symm |exact decide_eq_decide.2 (by omega)
   ·refine og hF (aq hF.p hF.o aa (aO (cg (c:=false) (aJ hc3)) (by simp))) 5 rfl rfl rfl fun a hF=>oV hF (aK (hF.at 6 rfl) hF.o) rfl fun a hF=>oM hF 0 rfl rfl fun a hF=>nu hF 0 rfl rfl rfl fun a hF=>nu hF 1 rfl rfl rfl fun a hF=>nu hF 2 rfl rfl rfl fun a hF=>nu hF 3 rfl rfl rfl fun a hF=>?_
    refine nu hF 4 rfl rfl rfl fun a hF=>oV hF (aQ (hF.at 5 rfl) ao) rfl fun a hF=>oE hF 0 rfl rfl fun a hF=>nr ?_
    have bel:=st.bel
    refine rt Tryz.results89 hF 0 rfl ?_
    refine⟨iz ?_,bel⟩
    unfold wiB
    first|exact(decide_eq_true (by omega)).symm |exact(decide_eq_false (by omega)).symm |exact decide_eq_decide.2 (by omega)
  ·refine og hF (aq hF.o ao aa (aO (cg (c:=false) (aJ hc2)) (by simp))) 1 rfl rfl rfl fun a hF=>oV hF (aK hF.q hF.o) rfl fun a hF=>oM hF 0 rfl rfl fun a hF=>nu hF 0 rfl rfl rfl fun a hF=>nu hF 1 rfl rfl rfl fun a hF=>nu hF 2 rfl rfl rfl fun a hF=>nu hF 3 rfl rfl rfl fun a hF=>nu hF 4 rfl rfl rfl fun a hF=>nu hF 5 rfl rfl rfl fun a hF=>oV hF (aQ (hF.at 6 rfl) ao) rfl fun a hF=>oM hF 0 rfl rfl fun a hF=>nu hF 0 rfl rfl rfl fun a hF=>nu hF 1 rfl rfl rfl fun a hF=>nu hF 2 rfl rfl rfl fun a hF=>?_
   refine nu hF 3 rfl rfl rfl fun a hF=>nu hF 4 rfl rfl rfl fun a hF=>oV hF (aQ (hF.at 5 rfl) ao) rfl fun a hF=>oE hF 0 rfl rfl fun a hF=>nr ?_
   have bel:=st.bel
   refine rt Tryz.results89 hF 0 rfl ?_
   refine⟨iz ?_,bel⟩
   unfold wiB
   first|exact(decide_eq_true (by omega)).symm |exact(decide_eq_false (by omega)).symm |exact decide_eq_decide.2 (by omega)
 ·refine oV hF (aq ao hF.o aa (aO (cg (c:=false) (aJ hc1)) (by simp))) rfl fun a hF=>oM hF 0 rfl rfl fun a hF=>nu hF 0 rfl rfl rfl fun a hF=>nu hF 1 rfl rfl rfl fun a hF=>oV hF (aQ hF.q ao) rfl fun a hF=>oM hF 0 rfl rfl fun a hF=>nu hF 0 rfl rfl rfl fun a hF=>nu hF 1 rfl rfl rfl fun a hF=>nu hF 2 rfl rfl rfl fun a hF=>nu hF 3 rfl rfl rfl fun a hF=>nu hF 4 rfl rfl rfl fun a hF=>nu hF 5 rfl rfl rfl fun a hF=>oV hF (aQ (hF.at 6 rfl) ao) rfl fun a hF=>oM hF 0 rfl rfl fun a hF=>?_
  refine nu hF 0 rfl rfl rfl fun a hF=>nu hF 1 rfl rfl rfl fun a hF=>nu hF 2 rfl rfl rfl fun a hF=>nu hF 3 rfl rfl rfl fun a hF=>nu hF 4 rfl rfl rfl fun a hF=>oV hF (aQ (hF.at 5 rfl) ao) rfl fun a hF=>oE hF 0 rfl rfl fun a hF=>nr ?_
  have bel:=st.bel
  refine rt Tryz.results89 hF 0 rfl ?_
  refine⟨iz ?_,bel⟩
  unfold wiB
  first|exact(decide_eq_true (by omega)).symm |exact(decide_eq_false (by omega)).symm |exact decide_eq_decide.2 (by omega)
theorem Ec (xa xb xc xd:Int) (w:World):
 CV 37 #[.agg #[iv xa,iv xb,iv xc,iv xd]] w (iv (plE xa xb xc xd)):=by
 refine gs1 (nt:=17) Tryz.func37 rfl rfl rfl fun a st hF=>wq<|bx st hF 0 rfl rfl fun g1 w1 a st hF=>?_
 refine oC hF rfl fun a hF=>ns<|wq<|oV hF (az hF.p (tW (p:=0) rfl)) rfl fun a hF=>oV hF (ar hF.o (bl (v:= iv xa) (st.bk 0 rfl) rfl)) rfl fun a hF=>oV hF (az (hF.at 3 rfl) (ue (p:=1) rfl)) rfl fun a hF=>oV hF (ar hF.o (bl (v:= iv xb) (st.bk 0 rfl) rfl)) rfl fun a hF=>cX st hF (rk Oh (vo hF.q hF.o ao)) (xX xa xb _) rfl fun w2 a st hF=>?_
 by_cases hc3:wiB 60 xa xb=true
 ·refine oV hF (dF (Eq.trans hF.o (congrArg Value.bool hc3)) (cO _ false rfl)) rfl fun a hF=>oM hF 0 rfl rfl fun a hF=>og hF (az (hF.at 8 rfl) (tw (p:=2) rfl)) 0 rfl rfl rfl fun a hF=>og hF (ar hF.o (bl (v:= iv xc) (st.bk 0 rfl) rfl)) 1 rfl rfl rfl fun a hF=>og hF (az (hF.at 10 rfl) (um (p:=3) rfl)) 2 rfl rfl rfl fun a hF=>og hF (ar hF.o (bl (v:= iv xd) (st.bk 0 rfl) rfl)) 3 rfl rfl rfl fun a hF=>?_
  refine S.callxg st hF (au rfl rfl (hF.at 4 rfl) rfl) (rk Oh (vo hF.q hF.o ao)) (xC xc xd _) rfl rfl rfl fun w4 a st hF=>?_
  by_cases hc5:wiB 180 xc xd=true
  ·refine og hF (dF (Eq.trans hF.o (congrArg Value.bool hc5)) (cO _ false rfl)) 5 rfl rfl rfl fun a hF=>oV hF (aQ (hF.at 6 rfl) hF.o) rfl fun a hF=>E.nil<|wp_cond_false hF.o<|wp_skip<|E.norm<|wq ?_
   refine oS hF (aZ ao) rfl fun a hF=>nr ?_
   have bel:=st.bel
   refine rt Tryz.results37 hF 0 rfl ?_
   refine⟨ch ?_,bel⟩
   unfold plE
   rw[if_pos ⟨by assumption,by assumption⟩]
  ·refine og hF (dF (Eq.trans hF.o (congrArg Value.bool (eq_false_of_ne_true hc5))) (cO _ true rfl)) 5 rfl rfl rfl fun a hF=>oV hF (aQ (hF.at 6 rfl) hF.o) rfl fun a hF=>E.nil<|wp_cond_true hF.o<|wq ?_
   refine oS hF (aZ ao) rfl fun a hF=>nr ?_
   have bel:=st.bel
   refine rt Tryz.results37 hF 0 rfl ?_
   refine⟨ch ?_,bel⟩
   unfold plE
   rw[if_neg (by rintro⟨e1,e2⟩;simp_all)]
 ·refine oV hF (dF (Eq.trans hF.o (congrArg Value.bool (eq_false_of_ne_true hc3))) (cO _ true rfl)) rfl fun a hF=>oM hF 0 rfl rfl fun a hF=>nu hF 0 rfl rfl rfl fun a hF=>nu hF 1 rfl rfl rfl fun a hF=>nu hF 2 rfl rfl rfl fun a hF=>nu hF 3 rfl rfl rfl fun a hF=>nu hF 4 rfl rfl rfl fun a hF=>nu hF 5 rfl rfl rfl fun a hF=>oV hF (aK (hF.at 6 rfl) ao) rfl fun a hF=>E.nil<|wp_cond_true hF.o<|wq ?_
  refine oS hF (aZ ao) rfl fun a hF=>nr ?_
  have bel:=st.bel
  refine rt Tryz.results37 hF 0 rfl ?_
  refine⟨ch ?_,bel⟩
  unfold plE
  rw[if_neg (by rintro⟨e1,e2⟩;simp_all)]
theorem PI:(Tryz.prog.info? 2).bind (·.zero)=some (iv 0):=by kernel_rfl
structure zE (W:World) (f:FuncId) (cap:Array Value) (n:Int) (p:Int->Bool):Prop where
 fn:∃fn,Tryz.prog.funcs[f]?=some fn/\(fn.name == "runtime.NumGoroutine")=false/\fn.body.isNone=false
 ask:∀h w,Below W.heap.size W w->0<=h->h<n->Calls Tryz.prog f (#[iv h]++cap) w (wk w (.bool (p h)))
theorem zE.below {W W':World} {f:FuncId} {cap:Array Value} {n:Int} {p:Int->Bool} (h:zE W f cap n p) (hb:Below W.heap.size W W'):zE W' f cap n p:=
 ⟨h.fn,fun v w b h0 h1=>h.ask v w (hb.trans (b.mono hb.size)) h0 h1⟩
theorem PV {P:Program} {w:World} {t:TypeId} {a:Int} {k:IntKind} {n:Nat} (hn:n<64) {d:Int} (hd:(2:Int)^n=d):(binOp .shr t (.int .u64 a) (.int k (n:Nat))).run P w= .ok (.int .u64 (a/d)) w:=by
 subst hd
 have e:min (((n:Nat):Int).toNat) IntKind.u64.bits=n:=by simp[IntKind.bits];omega
 have h0:¬(((n:Nat):Int)<0):=by omega
 simp only [binOp,Op.shift,if_neg h0,e]
 rw[Int.fdiv_eq_ediv_of_nonneg _ (by exact Int.le_of_lt (Int.pow_pos (by decide)))]
 rfl
theorem Bz {P:Program} {w:World} {s t:TypeId} {k k0 k':IntKind} {a:Int} (hs:P.underlying s=some (.int k0)) (ht:P.underlying t=some (.int k')) (h:k'.wrap a=a):(convert s t (.int k a)).run P w= .ok (.int k' a) w:=by
 unfold convert
 simp only [Sem.run_bind,run_underlying hs,run_underlying ht,Result.andThen_ok]
 show(Conv.intToInt k' a).run P w=_
 unfold Conv.intToInt
 rw[h]
 rfl
theorem Eb (n k:Int) (kf:FuncId) (cap:Array Value) (p:Int->Bool) (w:World) (hn:n<=1000000) (hk0:0<=k) (hk:k<=n) (hp:∀h,0<=h->h<n->(p h=true↔k<=h)) (hask:zE w kf cap n p):
 CV 106 #[iv n,.func (.func kf) #[] cap] w (iv k):=by
 obtain⟨fn,hfn1,hfn2,hfn3⟩:=hask.fn
 refine gs2 (nt:=26) Tryz.func106 rfl rfl rfl fun a st hF=>wq ?_
 refine oC hF rfl fun a hF=>nq ?_
 refine oM hF 1 rfl rfl fun a hF=>oC hF rfl fun a hF=>oA hF 1 rfl rfl fun a hF=>ns<|wp_block ?_
 refine E.loop (fun mq a wv=>∃(i:Int) (j:Int),0<=i/\i<=k/\k<=j/\j<=n/\Fr 26 a [(6,iv j),(5,iv i),(4,iv 0),(1,.func (.func kf) #[] cap)]/\St w wv [] []/\mq=(j-i:Int).toNat) (((n)-(0):Int).toNat) ?_ ?_
 ·exact⟨(0:Int),(n:Int),(by omega),(by omega),(by omega),(by omega),Fr.pick (L':=[(6,iv n),(5,iv 0),(4,iv 0),(1,.func (.func kf) #[] cap)]) hF [0,1,3,5] rfl,st.pick [] [] rfl rfl (by decide),rfl⟩
 ·rintro mq a w1 ⟨i,j,hi0,hik,hkj,hjn,hF,st,hm⟩
  refine wp_seq<|wq<|oM hF 1 rfl rfl fun a hF=>oM hF 1 rfl rfl fun a hF=>?_
  by_cases hc2:i<j
  ·refine oU hF 1 0 (aY (c:=true) (aI hc2)) rfl rfl rfl fun a hF=>E.nil<|wp_cond_true hF.o<|wp_skip<|E.norm<|wp_block<|wq<|oM hF 4 rfl rfl fun a hF=>oM hF 4 rfl rfl fun a hF=>oV hF (aq hF.p hF.o aa (aX (by omega) (by omega))) rfl fun a hF=>oV hF (go hF.o (Bz (k':= .u64) Tryz.underlying3 Tryz.underlying172 (IntWalk.u64_in _ ⟨by omega,by omega⟩))) rfl fun a hF=>oV hF (aq hF.o ao aa (PV (n:=1) (by decide) (d:=2) (by decide))) rfl fun a hF=>oV hF (go hF.o (Bz (k':= .i64) Tryz.underlying172 Tryz.underlying3 (IntWalk.i64_in _ ⟨by omega,by omega⟩))) rfl fun a hF=>oA hF 0 rfl rfl fun a hF=>?_
   refine nq<|oM hF 13 rfl rfl fun a hF=>oM hF 1 rfl rfl fun a hF=>cX st hF (kR hF.p hfn1 hfn2 hfn3 (aG hF.o)) ((hask.below st.bel).ask ((i+j)/2) _ (Below.refl _ _) (by omega) (by omega)) rfl fun w3 a st hF=>?_
   by_cases hc4:p ((i+j)/2)=true
   ·refine oV hF (dF (Eq.trans hF.o (congrArg Value.bool hc4)) (cO _ false rfl)) rfl fun a hF=>E.nil<|wp_cond_false hF.o<|E.seq<|oM hF 4 rfl rfl fun a hF=>oE hF 0 rfl rfl fun a hF=>E.nil0<|E.blk<|E.norm ?_
    have hq:=hp ((i+j)/2) (by omega) (by omega)
    have hq2:=hq.1 hc4
    exact⟨(((i+j)/2)-(i):Int).toNat,by omega,⟨(i:Int),((i+j)/2:Int),(by omega),(by omega),(by omega),(by omega),Fr.pick (L':=[(6,iv ((i+j)/2)),(5,iv i),(4,iv 0),(1,.func (.func kf) #[] cap)]) hF [0,16,17,18] rfl,st.pick [] [] rfl rfl (by decide),rfl⟩⟩
   ·refine oV hF (dF (Eq.trans hF.o (congrArg Value.bool (eq_false_of_ne_true hc4))) (cO _ true rfl)) rfl fun a hF=>E.nil<|wp_cond_true hF.o<|E.seq<|oM hF 4 rfl rfl fun a hF=>oV hF (aq hF.o ao aa (aX (by omega) (by omega))) rfl fun a hF=>oE hF 0 rfl rfl fun a hF=>E.nil0<|E.blk<|E.norm ?_
    have hq:=hp ((i+j)/2) (by omega) (by omega)
    have hq2:¬k<=((i+j)/2):=fun e=>hc4 (hq.2 e)
    exact⟨((j)-(((i+j)/2)+1):Int).toNat,by omega,⟨(((i+j)/2)+1:Int),(j:Int),(by omega),(by omega),(by omega),(by omega),Fr.pick (L':=[(6,iv j),(5,iv (((i+j)/2)+1)),(4,iv 0),(1,.func (.func kf) #[] cap)]) hF [17,0,18,19] rfl,st.pick [] [] rfl rfl (by decide),rfl⟩⟩
  ·refine oU hF 1 0 (aY (c:=false) (aJ hc2)) rfl rfl rfl fun a hF=>E.nil<|wp_cond_false hF.o<|wp_exit<|E.past<|E.past<|E.out (id:=0)<|E.norm<|wq ?_
   refine oM hF 4 rfl rfl fun a hF=>oE hF 0 rfl rfl fun a hF=>nr ?_
   have bel:=st.bel
   refine rt Tryz.results106 hF 0 rfl ?_
   refine⟨ch ?_,bel⟩
   omega
theorem F2 (v:Value) (z n:Int) (w:World) (h:Wz w v z) (e:z=n) (b0: -9223372036854775808<=n) (b1:n<=9223372036854775807):CV 174 #[v] w (.tuple #[iv n,.bool true]):=by
 subst e
 have h':=Cx v z w h
 rw[mW b0 b1,mp b0 b1] at h'
 exact h'
theorem nI (v1:Value) (qt:Rat) (k:Nat) (w:World) (hT:bE w) (h1:Rq w v1 qt) (hl:av qt k) (hk:k<=100) (hk0: -1000000000000<=kaV qt) (hk1:kaV qt<=1000000000000):
 CV 111 #[v1] w (iv (kaV qt/12-1955880000)):=by
 refine gs1 (nt:=23) Tryz.func111 rfl rfl rfl fun a st hF=>wq ?_
 obtain⟨r2,rfl⟩:=Rq.fo h1
 refine bx st hF 0 rfl rfl fun g1 w1 a st hF=>?_
 refine oC hF rfl fun a hF=>ns<|gz1 6 aM st hF ab [6,7,8,9,10,3] [_,_,_,_,_,_] (by decide+kernel) rfl rfl rfl ⟨rb st ab 1 0 rfl,ck st k40 rfl fun _ s=>dM,ck st k35 rfl fun _ s _ x7=>gR ⟨(h1.below s.bel),hl⟩ x7,ck st zO rfl fun _ s=>nQ,ck st pz rfl fun _ s _ x8 _ x9=>qb x8 x9,ra ab rfl rfl,trivial⟩ fun r6 g3 w7 a st hF=>ns ?_
 refine E.rg 13 aM hF [12,13,14,15,16,17,18,19,11,20,21,4,5] [_,_,_,_,_,_,_,_,.ex (.tuple #[iv (kaV qt/12-1955880000),.bool true]),.ex (iv (kaV qt/12-1955880000)),.ex (.bool true),.ex (iv (kaV qt/12-1955880000)),.ex (.bool true)] (by decide+kernel) rfl rfl rfl ⟨rb st ab 0 0 rfl,rb st ab 3 1 rfl,ck st k85 rfl fun _ s=>Ff (hT.below s.bel) ⟨(h1.below s.bel),hl⟩,ck st k36 rfl fun _ s=>en,ck st dB rfl fun _ s _ x14 _ x15=>dE x14 x15,ck st k35 rfl fun _ s _ x16=>gR (s.f 0 rfl) x16,ck st S1 rfl fun _ s _ x17=>eI (DJ _ ((((qt)-((((-1132959):Int):Rat)))/(pyr))-((eg (qt))*(((1:Int):Rat)/((360:Int):Rat)))) (((k+2+1)+2)+((3*k+100)+2)+1) _ x17.1 x17.2 (by omega)) (Gv x17.2),ck st PW rfl fun _ s _ x18=>bD (F2 _ (Rat.floor (((((qt)-((((-1132959):Int):Rat)))/(pyr))-((eg (qt))*(((1:Int):Rat)/((360:Int):Rat))))+((1:Int):Rat)/((2:Int):Rat))) (kaV qt/12-1955880000) _ (Wc.wz x18.1) (N7 qt) (by omega) (by omega)),(by intro a' w' hF' hb hd;have e19:=tE hd 0 rfl;exact dv0 (aD e19) rfl rfl rfl),(by intro a' w' hF' hb hd;have e11:=tE hd 0 rfl;exact dv0 (aH (v:= iv (kaV qt/12-1955880000)) e11 rfl) rfl rfl rfl),(by intro a' w' hF' hb hd;have e11:=tE hd 0 rfl;exact dv0 (aH (v:= .bool true) e11 rfl) rfl rfl rfl),(by intro a' w' hF' hb hd;have e20:=tE hd 0 rfl;exact dv0 (aZ e20) rfl rfl rfl),(by intro a' w' hF' hb hd;have e21:=tE hd 0 rfl;exact dv0 (aZ e21) rfl rfl rfl),trivial⟩ ?_
 intro a w8 hF bb hall
 replace st:=st.to bb
 replace hF:=rE hall hF 11 rfl rfl
 clear hall bb
 refine nq ?_
 refine oM hF 0 rfl rfl fun a hF=>oE hF 0 rfl rfl fun a hF=>nr ?_
 have bel:=st.bel
 refine rt Tryz.results111 hF 0 rfl ?_
 exact⟨rfl,bel⟩
theorem IJ (n:Int) (w:World) (hn0: -3000000<=n) (hn1:n<=3000000):
 CV 54 #[iv n] w (.bool true):=by
 refine gs1 (nt:=9) Tryz.func54 rfl rfl rfl fun a st hF=>wq ?_
 refine oC hF rfl fun a hF=>nq<|oM hF 1 rfl rfl fun a hF=>?_
 by_cases hc1:(-3000000)<=n
 ·refine oT hF 0 (dI (c:=true) (aI hc1)) rfl rfl fun a hF=>oM hF 0 rfl rfl fun a hF=>og hF (aD (hF.at 4 rfl)) 0 rfl rfl rfl fun a hF=>?_
  by_cases hc2:n<=3000000
  ·refine og hF (aq hF.o ao aa (aO (cg (c:=true) (aI hc2)) (by simp))) 1 rfl rfl rfl fun a hF=>oV hF (aK hF.q hF.o) rfl fun a hF=>oE hF 0 rfl rfl fun a hF=>nr ?_
   have bel:=st.bel
   refine rt Tryz.results54 hF 0 rfl ?_
   exact⟨rfl,bel⟩
  ·(exfalso;omega)
 ·(exfalso;omega)
theorem Gg (v1:Value) (qt:Rat) (k:Nat) (n:Int) (w:World) (h1:Rq w v1 qt) (hl:av qt k) (hk:k<=10000) (e:qt.floor=n) (h0: -9223372036854775808<=n) (h3:n<=9223372036854775807):CV 105 #[v1] w (.tuple #[iv n,.bool true]):=by
 subst e
 have h:=jT v1 _ k w h1 hl hk
 rwa[mW h0 h3,mp h0 h3] at h
theorem Ac (v1:Value) (qt:Rat) (k:Nat) (w:World) (hT:bE w) (h1:Rq w v1 qt) (hl:av qt k) (hk:k<=100):CV 80 #[v1] w (iv (tiV qt%30+1)):=by
 rw[<-PZ]
 exact C6 v1 qt k w hT h1 hl hk
theorem Nb {v1:Value} {qt:Rat} {k:Nat} {L:Int} (w:World) (hT:bE w) (h1:Rq w v1 qt) (hl:av qt k) (hk:k<=100) (hf0: -90000000<=Rat.floor qt) (hf1:Rat.floor qt<=90000000) (e:aA qt=L):CV 39 #[v1] w (.agg #[iv L,iv (aw L),iv (smV L%12),iv (smV (aw L)%12)]):=by
 subst e
 exact ug v1 qt k w hT h1 hl hk hf0 hf1
theorem lh (n xa xb xc xd X:Int) (w:World) (hT:bE w) (hok:bN xa xb xc xd) (hn0: -3850000<=n) (hn1:n<=3850000) (hX:amX n xa xb xc xd=X):
 CV 32 #[iv n,.agg #[iv xa,iv xb,iv xc,iv xd]] w (iv (X%30+1)):=by
 refine gs2 (nt:=9) Tryz.func32 rfl rfl rfl fun a st hF=>wq<|bx st hF 1 rfl rfl fun g3 w1 a st hF=>?_
 refine oC hF rfl fun a hF=>nq<|oM hF 2 rfl rfl fun a hF=>oL hF st 2 0 be rfl rfl rfl rfl fun a hF=>S.ck st hF (rgc k55 (aL hF.p hF.o)) (bf (lR n xa xb xc xd _ (hT.below st.bel) (by first|assumption|constructor<;>omega) (by omega) (by omega)) (mP (by first|assumption|constructor<;>omega) (by omega) (by omega))) Rl.cl rfl fun vv3 w2 a st hF=>?_
 obtain⟨r5,rfl⟩:=Rq.fo (st.f 0 rfl).1
 refine cX st hF (rgc k80 (aG hF.o)) (Ac _ _ 3 _ (hT.below st.bel) (st.f 0 rfl).1 (st.f 0 rfl).2 (by omega)) rfl fun w6 a st hF=>?_
 refine oE hF 0 rfl rfl fun a hF=>nr ?_
 have bel:=st.bel
 refine rt Tryz.results32 hF 0 rfl ?_
 refine⟨ch ?_,bel⟩
 rw[<-hX]
 rfl
theorem Di (n m:Int) (w:World) (hT:bE w) (hn0: -3800000<=n) (hn1:n<=3800000):
 CV 101 #[iv n,iv m] w (iv (tR n m)):=by
 have hka:=KG (n:=n+180) (by omega) (by omega)
 have hkb:=KG (n:=n+ -1) (by omega) (by omega)
 refine gs2 (nt:=20) Tryz.func101 rfl rfl rfl fun a st hF=>wq ?_
 refine oC hF rfl fun a hF=>nq ?_
 refine oM hF 1 rfl rfl fun a hF=>oV hF (aq hF.o ao aa (aX (by omega) (by omega))) rfl fun a hF=>oA hF 0 rfl rfl fun a hF=>ns<|wq<|oM hF 5 rfl rfl fun a hF=>?_
 by_cases hc1:m=1
 ·first
  |(exfalso;omega)
  |(refine oT hF 0 (aV (c:=true) (aI hc1)) rfl rfl fun a hF=>?_
    refine oM hF 0 rfl rfl fun a hF=>nu hF 0 rfl rfl rfl fun a hF=>nu hF 1 rfl rfl rfl fun a hF=>oV hF (aK hF.q ao) rfl fun a hF=>E.nil<|wp_cond_true hF.o<|E.seq ?_
    refine oM hF 10 rfl rfl fun a hF=>oV hF (aq hF.o ao aa (aX (by omega) (by omega))) rfl fun a hF=>oE hF 0 rfl rfl fun a hF=>nq<|oM hF 0 rfl rfl fun a hF=>S.ck st hF (rgc k40 (aG hF.o)) dM Rl.cl rfl fun vv3 w2 a st hF=>?_
    obtain⟨r5,rfl⟩:=Rq.fo (st.f 0 rfl).1
    refine cX st hF (rgc GV (aG hF.o)) (nI _ _ 2 _ (hT.below st.bel) (st.f 0 rfl).1 (st.f 0 rfl).2 (by omega) (by omega) (by omega)) rfl fun w6 a st hF=>?_
    refine oV hF (aq hF.o ao aa (bB (by omega) (by omega))) rfl fun a hF=>oE hF 0 rfl rfl fun a hF=>nr ?_
    have bel:=st.bel
    refine rt Tryz.results101 hF 0 rfl ?_
    refine⟨ch ?_,bel⟩
    unfold tR
    rw[if_pos (by omega)]
    omega)
 ·first
  |(exfalso;omega)
  |(refine oT hF 0 (aV (c:=false) (aJ hc1)) rfl rfl fun a hF=>?_
    refine oM hF 0 rfl rfl fun a hF=>og hF (aD (hF.at 8 rfl)) 0 rfl rfl rfl fun a hF=>?_
    by_cases hc7:m=2
    ·first
     |(exfalso;omega)
     |(refine og hF (aq hF.o ao aa (aO (aV (c:=true) (aI hc7)) (by simp))) 1 rfl rfl rfl fun a hF=>?_
       refine oV hF (aQ hF.q hF.o) rfl fun a hF=>E.nil<|wp_cond_true hF.o<|E.seq ?_
       refine oM hF 10 rfl rfl fun a hF=>oV hF (aq hF.o ao aa (aX (by omega) (by omega))) rfl fun a hF=>oE hF 0 rfl rfl fun a hF=>nq<|oM hF 0 rfl rfl fun a hF=>S.ck st hF (rgc k40 (aG hF.o)) dM Rl.cl rfl fun vv9 w8 a st hF=>?_
       obtain⟨r11,rfl⟩:=Rq.fo (st.f 0 rfl).1
       refine cX st hF (rgc GV (aG hF.o)) (nI _ _ 2 _ (hT.below st.bel) (st.f 0 rfl).1 (st.f 0 rfl).2 (by omega) (by omega) (by omega)) rfl fun w12 a st hF=>?_
       refine oV hF (aq hF.o ao aa (bB (by omega) (by omega))) rfl fun a hF=>oE hF 0 rfl rfl fun a hF=>nr ?_
       have bel:=st.bel
       refine rt Tryz.results101 hF 0 rfl ?_
       refine⟨ch ?_,bel⟩
       unfold tR
       rw[if_pos (by omega)]
       omega)
    ·first
     |(exfalso;omega)
     |(refine og hF (aq hF.o ao aa (aO (aV (c:=false) (aJ hc7)) (by simp))) 1 rfl rfl rfl fun a hF=>?_
       refine oV hF (aQ hF.q hF.o) rfl fun a hF=>E.nil<|wp_cond_false hF.o<|wp_skip<|E.norm<|wq<|oM hF 6 rfl rfl fun a hF=>S.ck st hF (rgc k40 (aG hF.o)) dM Rl.cl rfl fun vv14 w13 a st hF=>?_
       obtain⟨r16,rfl⟩:=Rq.fo (st.f 0 rfl).1
       refine cX st hF (rgc GV (aG hF.o)) (nI _ _ 2 _ (hT.below st.bel) (st.f 0 rfl).1 (st.f 0 rfl).2 (by omega) (by omega) (by omega)) rfl fun w17 a st hF=>?_
       refine oV hF (aq hF.o ao aa (bB (by omega) (by omega))) rfl fun a hF=>oE hF 0 rfl rfl fun a hF=>nr ?_
       have bel:=st.bel
       refine rt Tryz.results101 hF 0 rfl ?_
       refine⟨ch ?_,bel⟩
       unfold tR
       rw[if_neg (by omega),show n-1=n+ -1 from Int.sub_eq_add_neg]
       omega))
theorem iG (n xa xb xc xd L X Y:Int) (w:World) (hT:bE w) (hok:bN xa xb xc xd) (hn0: -3800000<=n) (hn1:n<=3800000) (hL:amL n xa xb xc xd=L) (hX:amX n xa xb xc xd=X) (hY:amX (n-1) xa xb xc xd=Y):
 CV 44 #[iv n,.agg #[iv xa,iv xb,iv xc,iv xd]] w (.agg #[iv ((smV L+1)/12-1955883044),iv ((smV L+1)%12+1),.bool (decide (smV (aw L)=smV L)),iv (X%30+1),.bool (decide (Y=X))]):=by
 have hst:=vY hok (n-1)
 rw[show n-1+1=n by omega,hX,hY] at hst
 have hsm:=gS (mQ n xa xb xc xd)
 rw[hL] at hsm
 have hyr:=Mh hok hL
 refine gs2 (nt:=32) Tryz.func44 rfl rfl rfl fun a st hF=>wq<|bx st hF 1 rfl rfl fun g3 w1 a st hF=>S.alloc st hF gO rfl rfl fun g4 w2 a st hF=>nq<|oM hF 2 rfl rfl fun a hF=>oL hF st 2 1 be rfl rfl rfl rfl fun a hF=>S.ck st hF (rgc k55 (aL hF.p hF.o)) (bf (lR n xa xb xc xd _ (hT.below st.bel) (by first|assumption|constructor<;>omega) (by omega) (by omega)) (mP (by first|assumption|constructor<;>omega) (by omega) (by omega))) Rl.cl rfl fun vv4 w3 a st hF=>?_
 obtain⟨r6,rfl⟩:=Rq.fo (st.f 0 rfl).1
 refine S.new st hF 0 rfl ab rfl rfl rfl rfl rfl fun g5 w7 a st hF=>ns ?_
 refine E.rga 5 aM hF [12,13,14,15,6] [_,_,_,_,kb w7 [iv 0,iv 0,iv 0,iv 0]] [4] ⟨fun _ _ ⟨g,e,_,o⟩=>⟨g,e,o.lt⟩,trivial⟩ (by decide+kernel) rfl rfl rfl ⟨rb st ab 0 0 rfl,ck st k39 rfl fun _ s=>bD (Nb _ (hT.below s.bel) (s.f 0 rfl).1 (s.f 0 rfl).2 (by omega) (by have:=sL hok n;omega) (by have:=sL hok n;omega) hL),rb st ab 0 0 rfl,ck st k80 rfl fun _ s=>bD (Ac _ (dU (gK n xa xb xc xd)) 3 _ (hT.below s.bel) (s.f 0 rfl).1 (s.f 0 rfl).2 (by omega)),rai bV rfl,trivial⟩ ?_
 intro a w8 hF bb hall hne
 have s0:=st
 replace st:=st.to bb
 replace hF:=rE hall hF 1 rfl rfl
 replace hF:=rE hall hF 3 rfl rfl
 obtain⟨_,e6,g6,rfl,ge6,o6⟩:=sS hall 4 6 rfl rfl
 replace st:=st.push o6 (Nat.le_trans s0.bel.size ge6) (s0.ne ge6)
 clear o6
 replace hF:=hF.add e6
 clear hall bb hne s0
 refine S.stoI st hF 0 rfl hF.o hF.q bV rfl rfl rfl fun w9 a st hF=>?_
 refine oA hF 1 rfl rfl fun a hF=>nq<|oL hF st 1 0 bV rfl rfl rfl rfl fun a hF=>cX st hF (rgc k99 (aG hF.o)) (je L (aw L) (smV L%12) (smV (aw L)%12) _ (by omega) (by omega)) rfl fun w10 a st hF=>?_
 refine oA hF 0 rfl rfl fun a hF=>ns ?_
 refine E.rg 14 aM hF [18,19,20,21,22,23,24,25,26,27,28,29,30,31] [_,_,_,_,_,_,_,_,.ex (iv (n-1)),_,_,_,.ex (.bool (decide (Y%30+1=tiV (dU (gK n xa xb xc xd))%30+1))),.ex (.agg #[iv (tR n (((smV L%12)+1)%12+1)),iv (((smV L%12)+1)%12+1),.bool (decide ((smV L%12)=(smV (aw L)%12))),iv (tiV (dU (gK n xa xb xc xd))%30+1),.bool (decide (Y%30+1=tiV (dU (gK n xa xb xc xd))%30+1))])] (by decide+kernel) rfl rfl rfl ⟨rm 13 rfl,rm 0 rfl,ck st Sc rfl fun _ s=>bD (Di n (((smV L%12)+1)%12+1) _ (hT.below s.bel) (by omega) (by omega)),rm 0 rfl,rb st bV 4 0 rfl,ck st CN rfl fun _ s=>bD (uS L (aw L) (smV L%12) (smV (aw L)%12) _),rm 3 rfl,rm 13 rfl,(by intro a' w' hF' hb hd;have e25:=tE hd 0 rfl;exact dv0 (aq e25 ao aa (bB (by omega) (by omega))) rfl rfl rfl),rb st be 12 3 rfl,ck st k32 rfl fun _ s=>bD (lh (n-1) xa xb xc xd Y _ (hT.below s.bel) (by first|assumption|constructor<;>omega) (by omega) (by omega) hY),rm 3 rfl,(by intro a' w' hF' hb hd;have e28:=tE hd 0 rfl;have e29:=tE hd 1 rfl;exact dv0 (aq e28 e29 aa (aO (aV (c:=decide (Y%30+1=tiV (dU (gK n xa xb xc xd))%30+1)) rfl) (by simp))) rfl rfl rfl),(by intro a' w' hF' hb hd;have e20:=tE hd 0 rfl;have e21:=tE hd 1 rfl;have e23:=tE hd 2 rfl;have e24:=tE hd 3 rfl;have e30:=tE hd 4 rfl;exact dv0 (bn (J5 e20 e21 e23 e24 e30) (yi _ _ _ _ _ _)) rfl rfl rfl),trivial⟩ ?_
 intro a w11 hF bb hall
 replace st:=st.to bb
 replace hF:=rE hall hF 13 rfl rfl
 clear hall bb
 refine S.stoI st hF 2 rfl (hF.at 12 rfl) hF.o gO rfl rfl rfl fun w12 a st hF=>nr<|rs Tryz.results44 st hF 12 2 gO rfl rfl rfl ?_
 refine⟨Q9 ?_ ?_ ?_ ?_ ?_,st.bel⟩
 ·rw[show(smV L%12+1)%12+1=(smV L+1)%12+1 by omega,hyr]
 ·omega
 ·exact decide_eq_decide.2 (by omega)
 ·rw[<-hX];rfl
 ·rw[show tiV (dU (gK n xa xb xc xd))=X from hX];exact decide_eq_decide.2 (by omega)
end Go.Proofs.YtgdpkknapcgcbaaGreatDoor
