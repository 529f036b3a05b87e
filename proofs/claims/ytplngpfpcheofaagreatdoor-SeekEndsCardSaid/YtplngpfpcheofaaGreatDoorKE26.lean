import Derived.Test.YtplngpfpcheofaaGreatDoorKE22
namespace Go.Proofs.YtplngpfpcheofaaGreatDoor
open Go.RowKit
set_option maxRecDepth 100000
set_option linter.unusedVariables false
set_option maxHeartbeats 8000000
def cre:Rat:=((-714403429586:Int):Rat)
def mfr (q:Rat):Rat:=q-((q.floor:Int):Rat)
def bV (t p:Rat):Rat:=(t-cre)/p
def mof (t p:Rat):Rat:=if p≤0 then 0 else mfr (bV t p)*((360:Int):Rat)
def pyr:Rat:=((1577917828000:Int):Rat)/((4320000000:Int):Rat)
def pmo:Rat:=((1577917828:Int):Rat)/((57753336:Int):Rat)
def pay:Rat:=((1577917828000:Int):Rat)/((4319999613:Int):Rat)
def pam:Rat:=((1577917828:Int):Rat)/((57265137:Int):Rat)
theorem zj:((360:Int):Rat)=360:=rfl
theorem wJ:0<pyr:=by decide+kernel
theorem xb:0<pmo:=by decide+kernel
theorem qj:0<pay:=by decide+kernel
theorem pg:0<pam:=by decide+kernel
theorem uO (q:Rat) (n:Int):mfr (q+((n:Int):Rat))=mfr q:=by
 unfold mfr
 rw[Rat.floor_add_intCast,Rat.intCast_add]
 grind
theorem tj (q:Rat):mfr q=q+(((-q.floor:Int)):Rat):=by
 unfold mfr;rw[Rat.intCast_neg];grind
theorem ww {t p:Rat} (h:0<p):mof t p=mfr (bV t p)*((360:Int):Rat):=by
 unfold mof;rw[if_neg (by grind)]
theorem jF {t p:Rat} (h:0<p):mof t p=((360:Int):Rat)*bV t p+((360:Int):Rat)*(((-(bV t p).floor :Int)):Rat):=by
 rw[ww h,tj];grind
theorem lO {x m:Rat} (h0:0≤x) (h1:x<m):aH x m=x:=by
 have:=uN (x:=x) (a:=0) (b:=m) (by grind) h1
 unfold rh at this
 rw[if_neg (by grind),show x-0=x by grind,show m-0=m by grind] at this
 grind
theorem fP {x m:Rat} (h:0<m):aH x m=x+m*(((-(x/m).floor :Int)):Rat):=by
 unfold aH
 rw[if_neg (by grind),Rat.intCast_neg];grind
theorem tS {x y m:Rat} (h:0<m):aH (aH x m+y) m=aH (x+y) m:=by
 rw[fP (x:=x) h,show x+m*(((-(x/m).floor :Int)):Rat)+y=(x+y)+m*(((-(x/m).floor :Int)):Rat) by grind,fX _ h]
theorem uP {x y m:Rat} (h:0<m):aH (x-aH y m) m=aH (x-y) m:=by
 rw[fP (x:=y) h,show x-(y+m*(((-(y/m).floor :Int)):Rat))=(x-y)+m*((((y/m).floor :Int)):Rat) by rw[Rat.intCast_neg];grind,fX _ h]
theorem aM:(0:Rat)<((360:Int):Rat):=by decide+kernel
theorem y8 (q:Rat):mfr q=mkRat (q.num%(q.den:Int)) q.den:=by
 have hm:q.num-q.floor*(q.den:Int)=q.num%(q.den:Int):=by
  rw[Rat.floor_def]
  have:=Int.mul_ediv_add_emod q.num (q.den:Int)
  rw[Int.mul_comm] at this
  omega
 unfold mfr
 rw[←hm,Rat.mkRat_eq_div,Rat.intCast_sub,Rat.intCast_mul,Rat.intCast_natCast]
 have h:(q.den:Rat)≠0:=by
  intro e
  have:=Rat.natCast_pos.2 q.den_pos
  grind
 have e:(q.num:Rat)=q*(q.den:Rat):=by
  have h1:q=(q.num:Rat)/(q.den:Rat):=by rw[←Rat.mkRat_eq_div,Rat.mkRat_self]
  have:q*(q.den:Rat)=(q.num:Rat)/(q.den:Rat)*(q.den:Rat):=by rw[←h1]
  rw[this,Rat.div_mul_cancel h]
 rw[e]
 grind
theorem jM {q:Rat} {k:Nat} (h:az q k):az (mfr q) k:=by
 rw[y8]
 have h2:q.den<B32^k:=h.2
 have hd:=q.den_pos
 refine iu (show _<B32^k from ?_) h.2 (by omega)
 have h0:=Int.emod_nonneg q.num (b:=(q.den:Int)) (by omega)
 have h1:=Int.emod_lt_of_pos q.num (b:=(q.den:Int)) (by omega)
 omega
theorem nG {n:Int} (h0: -9223372036854775808≤n) (h1:n≤9223372036854775807):az ((n:Int):Rat) 2:=aN (aD h0 h1) (by decide)
theorem f9 {n d:Int} (h0: -9223372036854775808≤n) (h1:n≤9223372036854775807) (g0: -9223372036854775808≤d) (g1:d≤9223372036854775807):az (((n:Int):Rat)/((d:Int):Rat)) 2:=(bf (aD h0 h1) (aD g0 g1)).up 2 (by decide)
theorem jT:az cre 2:=nG (by decide) (by decide)
theorem ma:az pyr 2:=f9 (by decide) (by decide) (by decide) (by decide)
theorem lV:az pmo 2:=f9 (by decide) (by decide) (by decide) (by decide)
theorem lP:az pay 2:=f9 (by decide) (by decide) (by decide) (by decide)
theorem lG:az pam 2:=f9 (by decide) (by decide) (by decide) (by decide)
theorem jw {t p:Rat} {k j:Nat} (h:az t k) (hp:az p j):az (bV t p) (k+j+3):=(b7 (bl h jT) hp).up _ (by omega)
theorem cE {t p:Rat} {k j:Nat} (h:az t k) (hp:az p j):az (mof t p) (k+j+5):=by
 unfold mof
 split
 ·exact gX (by omega)
 ·exact(aV (jM (jw h hp)) (nG (n:=360) (by decide) (by decide))).up _ (by omega)
theorem dJ {q:Rat} {k:Nat} (h:az q k):az (aH q ((360:Int):Rat)) (k+4):=by
 have e:aH q ((360:Int):Rat)=((360:Int):Rat)*mfr (q/((360:Int):Rat)):=by
  rw[fP aM,tj,zj];grind
 rw[e]
 have l:az ((360:Int):Rat) 2:=nG (by decide) (by decide)
 exact(aV l (jM (b7 h l))).up _ (by omega)
theorem tg (w:World):
 Calls Tryz.prog 136 #[] w (bg w pyr):=by
 have st:=St.start w
 refine go0 (nt:=2) Tryz.func136 rfl rfl fun a hF=>?_
 refine wq ?_
 refine S.alloc st hF ag rfl rfl fun g0 w1 a st hF=>?_
 refine nq ?_
 refine ca st hF (rk k22 (ar ao ao)) (bZ (1577917828000) (4320000000) _ (by decide) (by decide) (by decide) (by decide)) (fun _ _ h=>h) Rq.cl rfl fun vv3 w2 a st hF=>?_
 obtain⟨r5,rfl⟩:=Rq.fo (st.f 0 rfl)
 refine so st hF 0 1 0 ag rfl rfl rfl rfl fun w6 a st hF=>?_
 refine nr ?_
 refine rs Tryz.results136 st hF 1 0 ag rfl rfl rfl ?_
 have bel:=st.bel
 exact⟨_,rfl,(st.f 0 rfl),bel⟩
theorem qF (w:World):
 Calls Tryz.prog 132 #[] w (bg w pmo):=by
 have st:=St.start w
 refine go0 (nt:=2) Tryz.func132 rfl rfl fun a hF=>?_
 refine wq ?_
 refine S.alloc st hF ag rfl rfl fun g0 w1 a st hF=>?_
 refine nq ?_
 refine ca st hF (rk k22 (ar ao ao)) (bZ (1577917828) (57753336) _ (by decide) (by decide) (by decide) (by decide)) (fun _ _ h=>h) Rq.cl rfl fun vv3 w2 a st hF=>?_
 obtain⟨r5,rfl⟩:=Rq.fo (st.f 0 rfl)
 refine so st hF 0 1 0 ag rfl rfl rfl rfl fun w6 a st hF=>?_
 refine nr ?_
 refine rs Tryz.results132 st hF 1 0 ag rfl rfl rfl ?_
 have bel:=st.bel
 exact⟨_,rfl,(st.f 0 rfl),bel⟩
theorem kn (w:World):
 Calls Tryz.prog 137 #[] w (bg w pay):=by
 have st:=St.start w
 refine go0 (nt:=2) Tryz.func137 rfl rfl fun a hF=>?_
 refine wq ?_
 refine S.alloc st hF ag rfl rfl fun g0 w1 a st hF=>?_
 refine nq ?_
 refine ca st hF (rk k22 (ar ao ao)) (bZ (1577917828000) (4319999613) _ (by decide) (by decide) (by decide) (by decide)) (fun _ _ h=>h) Rq.cl rfl fun vv3 w2 a st hF=>?_
 obtain⟨r5,rfl⟩:=Rq.fo (st.f 0 rfl)
 refine so st hF 0 1 0 ag rfl rfl rfl rfl fun w6 a st hF=>?_
 refine nr ?_
 refine rs Tryz.results137 st hF 1 0 ag rfl rfl rfl ?_
 have bel:=st.bel
 exact⟨_,rfl,(st.f 0 rfl),bel⟩
theorem j6 (w:World):
 Calls Tryz.prog 133 #[] w (bg w pam):=by
 have st:=St.start w
 refine go0 (nt:=2) Tryz.func133 rfl rfl fun a hF=>?_
 refine wq ?_
 refine S.alloc st hF ag rfl rfl fun g0 w1 a st hF=>?_
 refine nq ?_
 refine ca st hF (rk k22 (ar ao ao)) (bZ (1577917828) (57265137) _ (by decide) (by decide) (by decide) (by decide)) (fun _ _ h=>h) Rq.cl rfl fun vv3 w2 a st hF=>?_
 obtain⟨r5,rfl⟩:=Rq.fo (st.f 0 rfl)
 refine so st hF 0 1 0 ag rfl rfl rfl rfl fun w6 a st hF=>?_
 refine nr ?_
 refine rs Tryz.results133 st hF 1 0 ag rfl rfl rfl ?_
 have bel:=st.bel
 exact⟨_,rfl,(st.f 0 rfl),bel⟩
theorem mF (w:World):
 Calls Tryz.prog 178 #[] w (bg w cre):=by
 have st:=St.start w
 refine go0 (nt:=2) Tryz.func178 rfl rfl fun a hF=>?_
 refine wq ?_
 refine S.alloc st hF ag rfl rfl fun g0 w1 a st hF=>?_
 refine nq ?_
 refine ca st hF (rk k20 (aB ao)) (bK ((-714403429586)) _ (by decide) (by decide)) (fun _ _ h=>h) Rq.cl rfl fun vv3 w2 a st hF=>?_
 obtain⟨r5,rfl⟩:=Rq.fo (st.f 0 rfl)
 refine so st hF 0 1 0 ag rfl rfl rfl rfl fun w6 a st hF=>?_
 refine nr ?_
 refine rs Tryz.results178 st hF 1 0 ag rfl rfl rfl ?_
 have bel:=st.bel
 exact⟨_,rfl,(st.f 0 rfl),bel⟩
theorem qG (v1 v2:Value) (qt qp:Rat) (k j:Nat) (w:World) (h1:Rq w v1 qt) (h2:Rq w v2 qp) (hl:az qt k) (hm:az qp j) (hk:k≤400) (hj:j≤400):
 Calls Tryz.prog 163 #[v1,v2] w (bg w (bV qt qp)):=by
 have st:=St.start w
 refine go2 (nt:=10) Tryz.func163 rfl rfl rfl fun a hF=>?_
 refine wq ?_
 obtain⟨r2,rfl⟩:=Rq.fo h1
 refine bx st hF 0 rfl rfl fun g2 w1 a st hF=>?_
 obtain⟨r4,rfl⟩:=Rq.fo h2
 refine bx st hF 2 rfl rfl fun g3 w3 a st hF=>?_
 refine S.alloc st hF ag rfl rfl fun g4 w5 a st hF=>?_
 refine ns ?_
 refine eD 5 aJ hF [5,6,7,8,9] [(Iz r2.v),(Iq (cre)),(Iq ((qt)-(cre))),(Iz r4.v),(Iq (((qt)-(cre))/(qp)))] [] (by decide+kernel) rfl rfl trivial ⟨?_,?_,?_,?_,?_,trivial⟩ ?_
 ·exact qL st 2 2 ag rfl rfl rfl rfl rfl
 ·intro a' w' hF' hb hd
  exact dc0 (rk AA eh) (mF _) rfl rfl
 ·intro a' w' hF' hb hd
  have e5:=tE hd 0 rfl
  obtain⟨v6_0,e6,h6_1⟩:=tH hd 1 rfl
  exact dc0 (rk k37 (ar e5 e6)) (dU _ _ (qt) (cre) (max k 2) _ (h1.below (aa st.bel hb)) h6_1 (hl.up _ (by omega)) (jT.up _ (by omega)) (by omega)) rfl rfl
 ·exact qL st 1 1 ag rfl rfl rfl rfl rfl
 ·intro a' w' hF' hb hd
  obtain⟨v7_0,e7,h7_1⟩:=tH hd 0 rfl
  have e8:=tE hd 1 rfl
  exact dc0 (rk nV (ar e7 e8)) (gV _ _ _ (qp) (max (k+2+1) j) _ h7_1 (h2.below (aa st.bel hb)) ((bl hl jT).up _ (by omega)) (hm.up _ (by omega)) (by omega)) rfl rfl
 intro a w6 hF bb hall hne
 replace st:=st.to bb
 obtain⟨vv7,hF,st⟩:=aS hall hF st 4 rfl rfl Rq.cl
 clear hall hne bb
 obtain⟨r9,rfl⟩:=Rq.fo (st.f 0 rfl)
 refine so st hF 0 1 0 ag rfl rfl rfl rfl fun w10 a st hF=>?_
 refine nr ?_
 refine rs Tryz.results163 st hF 1 0 ag rfl rfl rfl ?_
 have bel:=st.bel
 exact⟨_,rfl,(st.f 0 rfl),bel⟩
theorem sB {t p:Rat} (h:sz p.num≤0):(0:Rat)=mof t p:=by unfold mof;rw[if_pos (lw.1 h)]
theorem qn {t p:Rat} (h:¬sz p.num≤0):(bV t p-(((bV t p).floor :Int):Rat))*((360:Int):Rat)=mof t p:=by unfold mof mfr;rw[if_neg (fun e=>h (lw.2 e))]
theorem pU (v1 v2:Value) (qt qp:Rat) (k j:Nat) (w:World) (h1:Rq w v1 qt) (h2:Rq w v2 qp) (hl:az qt k) (hm:az qp j) (hk:k≤400) (hj:j≤400):
 Calls Tryz.prog 134 #[v1,v2] w (bg w (mof qt qp)):=by
 by_cases h0:sz (Rat.num (qp))≤0
 ·have st:=St.start w
  refine go2 (nt:=15) Tryz.func134 rfl rfl rfl fun a hF=>?_
  refine wq ?_
  obtain⟨r2,rfl⟩:=Rq.fo h1
  refine bx st hF 0 rfl rfl fun g2 w1 a st hF=>?_
  obtain⟨r4,rfl⟩:=Rq.fo h2
  refine bx st hF 2 rfl rfl fun g3 w3 a st hF=>?_
  refine S.alloc st hF ag rfl rfl fun g4 w5 a st hF=>?_
  refine ns ?_
  refine wq ?_
  refine oL hF st 1 1 ag rfl rfl rfl rfl fun a hF=>?_
  refine cX st hF (rk k32 (aB (hF.at 0 rfl))) (dE _ (qp) _ (h2.below st.bel)) rfl fun w6 a st hF=>?_
  refine oV hF (av (hF.at 0 rfl) ao ab (aC (f6 (c:=true) (aP h0)) (by simp))) rfl fun a hF=>?_
  refine E.nil ?_
  refine wp_cond_true (hF.at 0 rfl) ?_
  refine wq ?_
  refine oV hF (aW (by simp) (fv _)) rfl fun a hF=>?_
  refine so st hF 0 4 0 ag rfl rfl rfl rfl fun w7 a st hF=>?_
  refine nr ?_
  refine rs Tryz.results134 st hF 4 0 ag rfl rfl rfl ?_
  have bel:=st.bel
  exact⟨_,rfl,Rq.castM (Rq.zero _) (sB h0),bel⟩
 ·have st:=St.start w
  refine go2 (nt:=15) Tryz.func134 rfl rfl rfl fun a hF=>?_
  refine wq ?_
  obtain⟨r2,rfl⟩:=Rq.fo h1
  refine bx st hF 0 rfl rfl fun g2 w1 a st hF=>?_
  obtain⟨r4,rfl⟩:=Rq.fo h2
  refine bx st hF 2 rfl rfl fun g3 w3 a st hF=>?_
  refine S.alloc st hF ag rfl rfl fun g4 w5 a st hF=>?_
  refine ns ?_
  refine wq ?_
  refine oL hF st 1 1 ag rfl rfl rfl rfl fun a hF=>?_
  refine cX st hF (rk k32 (aB (hF.at 0 rfl))) (dE _ (qp) _ (h2.below st.bel)) rfl fun w6 a st hF=>?_
  refine oV hF (av (hF.at 0 rfl) ao ab (aC (f6 (c:=false) (aZ h0)) (by simp))) rfl fun a hF=>?_
  refine E.nil ?_
  refine wp_cond_false (hF.at 0 rfl) ?_
  refine wp_skip ?_
  refine E.norm ?_
  refine wq ?_
  refine oL hF st 5 2 ag rfl rfl rfl rfl fun a hF=>?_
  refine oL hF st 5 1 ag rfl rfl rfl rfl fun a hF=>?_
  refine ca st hF (rk Ai (ar (hF.at 1 rfl) (hF.at 0 rfl))) (qG _ _ (qt) (qp) k j _ (h1.below st.bel) (h2.below st.bel) hl hm (by omega) (by omega)) (fun _ _ h=>h) Rq.cl rfl fun vv8 w7 a st hF=>?_
  obtain⟨r10,rfl⟩:=Rq.fo (st.f 0 rfl)
  refine ca st hF (rk yN (aB (hF.at 0 rfl))) (mw _ _ (k+j+3) _ (st.f 0 rfl) (jw hl hm) (by omega)) (fun _ _ h=>h) Rq.cl rfl fun vv12 w11 a st hF=>?_
  obtain⟨r14,rfl⟩:=Rq.fo (st.f 0 rfl)
  refine ca st hF (rk k20 (aB ao)) (bK (360) _ (by decide) (by decide)) (fun _ _ h=>h) Rq.cl rfl fun vv16 w15 a st hF=>?_
  obtain⟨r18,rfl⟩:=Rq.fo (st.f 0 rfl)
  refine ca st hF (rk gL (ar (hF.at 1 rfl) (hF.at 0 rfl))) (di _ _ _ _ (max (k+j+3) 2) _ (st.f 1 rfl) (st.f 0 rfl) ((jM (jw hl hm)).up _ (by omega)) ((aN (aD (by decide) (by decide)) (by omega)).up _ (by omega)) (by omega)) (fun _ _ h=>h) Rq.cl rfl fun vv20 w19 a st hF=>?_
  obtain⟨r22,rfl⟩:=Rq.fo (st.f 0 rfl)
  refine so st hF 0 9 0 ag rfl rfl rfl rfl fun w23 a st hF=>?_
  refine nr ?_
  refine rs Tryz.results134 st hF 9 0 ag rfl rfl rfl ?_
  have bel:=st.bel
  exact⟨_,rfl,Rq.castM (st.f 0 rfl) (qn h0),bel⟩
end Go.Proofs.YtplngpfpcheofaaGreatDoor
