import Derived.Test.YtgdpkknapcgcbaaGreatDoorKB16
namespace Go.Proofs.YtgdpkknapcgcbaaGreatDoor
open Go.RowKit
set_option maxRecDepth 100000
set_option linter.unusedVariables false
set_option maxHeartbeats 8000000
def cre:Rat:=((-714403429586:Int):Rat)
def mfr (q:Rat):Rat:=q-((q.floor:Int):Rat)
def aX (t p:Rat):Rat:=(t-cre)/p
def mof (t p:Rat):Rat:=if p<=0 then 0 else mfr (aX t p)*((360:Int):Rat)
def pyr:Rat:=((1577917828000:Int):Rat)/((4320000000:Int):Rat)
def pmo:Rat:=((1577917828:Int):Rat)/((57753336:Int):Rat)
def pay:Rat:=((1577917828000:Int):Rat)/((4319999613:Int):Rat)
def pam:Rat:=((1577917828:Int):Rat)/((57265137:Int):Rat)
theorem eO:((360:Int):Rat)=360:=rfl
theorem oX:0<pyr:=by decide+kernel
theorem BI:0<pmo:=by decide+kernel
theorem gJ:0<pay:=by decide+kernel
theorem tV:0<pam:=by decide+kernel
theorem BC (q:Rat):0<=mfr q:=by have:=dF q;unfold mfr;grind
theorem yP (q:Rat):mfr q<1:=by have:=ec q;unfold mfr;grind
theorem xY (q:Rat) (n:Int):mfr (q+((n:Int):Rat))=mfr q:=by
 unfold mfr
 rw[Rat.floor_add_intCast,Rat.intCast_add]
 grind
theorem rQ (q:Rat):mfr q=q+(((-q.floor:Int)):Rat):=by
 unfold mfr;rw[Rat.intCast_neg];grind
theorem om {t p:Rat} (h:0<p):mof t p=mfr (aX t p)*((360:Int):Rat):=by
 unfold mof;rw[if_neg (by grind)]
theorem A7 (t p:Rat):0<=mof t p:=by
 unfold mof
 split
 ·grind
 ·have:=BC (aX t p);rw[eO];grind
theorem yx (t p:Rat):mof t p<((360:Int):Rat):=by
 unfold mof
 split
 ·rw[eO];grind
 ·have:=yP (aX t p);rw[eO];grind
theorem ia {t p:Rat} (h:0<p):mof t p=((360:Int):Rat)*aX t p+((360:Int):Rat)*(((-(aX t p).floor :Int)):Rat):=by
 rw[om h,rQ];grind
theorem Bz {x m:Rat} (h0:0<=x) (h1:x<m):rmod x m=x:=by
 have:=zY (x:=x) (a:=0) (b:=m) (by grind) h1
 unfold cB at this
 rw[if_neg (by grind),show x-0=x by grind,show m-0=m by grind] at this
 grind
theorem dP {x m:Rat} (h:0<m):rmod x m=x+m*(((-(x/m).floor :Int)):Rat):=by
 unfold rmod
 rw[if_neg (by grind),Rat.intCast_neg];grind
theorem yW {x y m:Rat} (h:0<m):rmod (rmod x m+y) m=rmod (x+y) m:=by
 rw[dP (x:=x) h,show x+m*(((-(x/m).floor :Int)):Rat)+y=(x+y)+m*(((-(x/m).floor :Int)):Rat) by grind,f8 _ h]
theorem yQ {x y m:Rat} (h:0<m):rmod (x-rmod y m) m=rmod (x-y) m:=by
 rw[dP (x:=y) h,show x-(y+m*(((-(y/m).floor :Int)):Rat))=(x-y)+m*((((y/m).floor :Int)):Rat) by rw[Rat.intCast_neg];grind,f8 _ h]
theorem aN:(0:Rat)<((360:Int):Rat):=by decide+kernel
theorem CG (q:Rat):mfr q=mkRat (q.num%(q.den:Int)) q.den:=by
 have hm:q.num-q.floor*(q.den:Int)=q.num%(q.den:Int):=by
  rw[Rat.floor_def]
  have:=Int.mul_ediv_add_emod q.num (q.den:Int)
  rw[Int.mul_comm] at this
  omega
 unfold mfr
 rw[<-hm,Rat.mkRat_eq_div,Rat.intCast_sub,Rat.intCast_mul,Rat.intCast_natCast]
 have h:(q.den:Rat)≠0:=by
  intro e
  have:=Rat.natCast_pos.2 q.den_pos
  grind
 have e:(q.num:Rat)=q*(q.den:Rat):=by
  have h1:q=(q.num:Rat)/(q.den:Rat):=by rw[<-Rat.mkRat_eq_div,Rat.mkRat_self]
  have:q*(q.den:Rat)=(q.num:Rat)/(q.den:Rat)*(q.den:Rat):=by rw[<-h1]
  rw[this,Rat.div_mul_cancel h]
 rw[e]
 grind
theorem pm {q:Rat} {k:Nat} (h:ag q k):ag (mfr q) k:=by
 rw[CG]
 have h2:q.den<B32^k:=h.2
 have hd:=q.den_pos
 refine lP (show _<B32^k from ?_) h.2 (by omega)
 have h0:=Int.emod_nonneg q.num (b:=(q.den:Int)) (by omega)
 have h1:=Int.emod_lt_of_pos q.num (b:=(q.den:Int)) (by omega)
 omega
theorem rM {n:Int} (h0: -9223372036854775808<=n) (h1:n<=9223372036854775807):ag ((n:Int):Rat) 2:=bX (bF h0 h1) (by decide)
theorem gC {n d:Int} (h0: -9223372036854775808<=n) (h1:n<=9223372036854775807) (g0: -9223372036854775808<=d) (g1:d<=9223372036854775807):ag (((n:Int):Rat)/((d:Int):Rat)) 2:=(eX (bF h0 h1) (bF g0 g1)).up 2 (by decide)
theorem t9:ag cre 2:=rM (by decide) (by decide)
theorem oI:ag pyr 2:=gC (by decide) (by decide) (by decide) (by decide)
theorem oB:ag pmo 2:=gC (by decide) (by decide) (by decide) (by decide)
theorem l7:ag pay 2:=gC (by decide) (by decide) (by decide) (by decide)
theorem oj:ag pam 2:=gC (by decide) (by decide) (by decide) (by decide)
theorem pw {t p:Rat} {k j:Nat} (h:ag t k) (hp:ag p j):ag (aX t p) (k+j+3):=(cL (bI h t9) hp).up _ (by omega)
theorem md {t p:Rat} {k j:Nat} (h:ag t k) (hp:ag p j):ag (mof t p) (k+j+5):=by
 unfold mof
 split
 ·exact fi (by omega)
 ·exact(aH (pm (pw h hp)) (rM (n:=360) (by decide) (by decide))).up _ (by omega)
theorem dv {q:Rat} {k:Nat} (h:ag q k):ag (rmod q ((360:Int):Rat)) (k+4):=by
 have e:rmod q ((360:Int):Rat)=((360:Int):Rat)*mfr (q/((360:Int):Rat)):=by
  rw[dP aN,rQ,eO];grind
 rw[e]
 have l:ag ((360:Int):Rat) 2:=rM (by decide) (by decide)
 exact(aH l (pm (cL h l))).up _ (by omega)
theorem AH {v1:Value} {p1:Rat} {k1:Nat} {w:World} (x1:Rl p1 k1 w v1) (a1:k1<=10000:=by omega):CP 257 #[v1] w (Ret (kq ((p1)-((Rat.floor (p1):Int):Rat)) ((k1+k1+3))) w):=aw (wi _ (p1) k1 _ x1.1 x1.2 (by omega)) (rf x1.2)
theorem F5 {v1 v2:Value} {p1 p2:Rat} {k1 k2:Nat} {w:World} (x1:Rl p1 k1 w v1) (x2:Rl p2 k2 w v2) (a1:k1<=1000:=by omega) (a2:k2<=1000:=by omega):CP 211 #[v1,v2] w (Ret (kq (rmod (p1) (p2)) ((k1+k1+k2+k2+3))) w):=aw (nj _ _ (p1) (p2) k1 k2 _ x1.1 x2.1 x1.2 x2.2 (by omega) (by omega)) (kE (k:=k1) (j:=k2) x1.2 x2.2)
theorem EY {v1 v2 v3:Value} {p1 p2 p3:Rat} {k1 k2 k3:Nat} {w:World} (x1:Rl p1 k1 w v1) (x2:Rl p2 k2 w v2) (x3:Rl p3 k3 w v3) (a1:k1<=400:=by omega) (a2:k2<=400:=by omega) (a3:k3<=400:=by omega):CP 283 #[v1,v2,v3] w (Ret (kq (cB (p1) (p2) (p3)) ((2*k1+5*k2+2*k3+8))) w):=aw (wH _ _ _ (p1) (p2) (p3) k1 k2 k3 _ x1.1 x2.1 x3.1 x1.2 x2.2 x3.2 (by omega) (by omega) (by omega)) (pQ (k:=k1) (j:=k2) (i:=k3) x1.2 x2.2 x3.2)
theorem AF {v1 v2:Value} {p1:Rat} {k1 k2:Nat} {w:World} (x1:Rl p1 k1 w v1) (x2:Rl ((360:Int):Rat) k2 w v2) (a1:k1<=1000:=by omega) (a2:k2<=1000:=by omega):CP 211 #[v1,v2] w (Ret (kq (rmod p1 ((360:Int):Rat)) (k1+4)) w):=aw (nj _ _ _ _ k1 k2 _ x1.1 x2.1 x1.2 x2.2 a1 a2) (dv x1.2)
theorem xJ (w:World):
 CQ 103 #[] w pyr:=by
 refine gs0 (nt:=2) Tryz.func103 rfl rfl fun a st hF=>wq<|S.alloc st hF aa rfl rfl fun g0 w1 a st hF=>nq<|S.ck st hF (rgc k36 (aA ah ah)) cG Rl.cl rfl fun vv3 w2 a st hF=>?_
 obtain⟨r5,rfl⟩:=Rq.fo (st.f 0 rfl).1
 refine so st hF 0 1 0 aa rfl rfl rfl rfl fun w6 a st hF=>nr<|rs Tryz.results103 st hF 1 0 aa rfl rfl rfl ?_
 exact⟨_,rfl,(st.f 0 rfl).1,st.bel⟩
theorem uE (w:World):
 CQ 255 #[] w pmo:=by
 refine gs0 (nt:=2) Tryz.func255 rfl rfl fun a st hF=>wq<|S.alloc st hF aa rfl rfl fun g0 w1 a st hF=>nq<|S.ck st hF (rgc k36 (aA ah ah)) cG Rl.cl rfl fun vv3 w2 a st hF=>?_
 obtain⟨r5,rfl⟩:=Rq.fo (st.f 0 rfl).1
 refine so st hF 0 1 0 aa rfl rfl rfl rfl fun w6 a st hF=>nr<|rs Tryz.results255 st hF 1 0 aa rfl rfl rfl ?_
 exact⟨_,rfl,(st.f 0 rfl).1,st.bel⟩
theorem nf (w:World):
 CQ 212 #[] w pay:=by
 refine gs0 (nt:=2) Tryz.func212 rfl rfl fun a st hF=>wq<|S.alloc st hF aa rfl rfl fun g0 w1 a st hF=>nq<|S.ck st hF (rgc k36 (aA ah ah)) cG Rl.cl rfl fun vv3 w2 a st hF=>?_
 obtain⟨r5,rfl⟩:=Rq.fo (st.f 0 rfl).1
 refine so st hF 0 1 0 aa rfl rfl rfl rfl fun w6 a st hF=>nr<|rs Tryz.results212 st hF 1 0 aa rfl rfl rfl ?_
 exact⟨_,rfl,(st.f 0 rfl).1,st.bel⟩
theorem ml (w:World):
 CQ 256 #[] w pam:=by
 refine gs0 (nt:=2) Tryz.func256 rfl rfl fun a st hF=>wq<|S.alloc st hF aa rfl rfl fun g0 w1 a st hF=>nq<|S.ck st hF (rgc k36 (aA ah ah)) cG Rl.cl rfl fun vv3 w2 a st hF=>?_
 obtain⟨r5,rfl⟩:=Rq.fo (st.f 0 rfl).1
 refine so st hF 0 1 0 aa rfl rfl rfl rfl fun w6 a st hF=>nr<|rs Tryz.results256 st hF 1 0 aa rfl rfl rfl ?_
 exact⟨_,rfl,(st.f 0 rfl).1,st.bel⟩
theorem qj (w:World):
 CQ 277 #[] w cre:=by
 refine gs0 (nt:=2) Tryz.func277 rfl rfl fun a st hF=>wq<|S.alloc st hF aa rfl rfl fun g0 w1 a st hF=>nq<|S.ck st hF (rgc k40 (aB ah)) ei Rl.cl rfl fun vv3 w2 a st hF=>?_
 obtain⟨r5,rfl⟩:=Rq.fo (st.f 0 rfl).1
 refine so st hF 0 1 0 aa rfl rfl rfl rfl fun w6 a st hF=>nr<|rs Tryz.results277 st hF 1 0 aa rfl rfl rfl ?_
 exact⟨_,rfl,(st.f 0 rfl).1,st.bel⟩
theorem uA (v1 v2:Value) (qt qp:Rat) (k j:Nat) (w:World) (h1:Rq w v1 qt) (h2:Rq w v2 qp) (hl:ag qt k) (hm:ag qp j) (hk:k<=400) (hj:j<=400):
 CQ 258 #[v1,v2] w (aX qt qp):=by
 refine gs2 (nt:=10) Tryz.func258 rfl rfl rfl fun a st hF=>wq ?_
 obtain⟨r2,rfl⟩:=Rq.fo h1
 refine bx st hF 0 rfl rfl fun g2 w1 a st hF=>?_
 obtain⟨r4,rfl⟩:=Rq.fo h2
 refine bx st hF 2 rfl rfl fun g3 w3 a st hF=>S.alloc st hF aa rfl rfl fun g4 w5 a st hF=>ns<|gz2 5 aF st hF aa 0 0 [5,6,7,8,9] [_,_,_,_,_] (by decide+kernel) rfl rfl rfl ⟨rb st aa 2 2 rfl,ck st FK rfl fun _ s=>aw (qj _) t9,ck st k35 rfl fun _ s _ x6=>er ⟨(h1.below s.bel),hl⟩ x6,rb st aa 1 1 rfl,ck st lK rfl fun _ s _ x7=>lj x7 ⟨(h2.below s.bel),hm⟩,trivial⟩ fun r9 w10 a st hF=>nr<|rs Tryz.results258 st hF 1 0 aa rfl rfl rfl ?_
 exact⟨_,rfl,(st.f 0 rfl).1,st.bel⟩
theorem Du {t p:Rat} (h:sz p.num<=0):(0:Rat)=mof t p:=by unfold mof;rw[if_pos (jK.1 h)]
theorem BU {t p:Rat} (h:¬sz p.num<=0):(aX t p-(((aX t p).floor :Int):Rat))*((360:Int):Rat)=mof t p:=by unfold mof mfr;rw[if_neg (fun e=>h (jK.2 e))]
theorem Ch (v1 v2:Value) (qt qp:Rat) (k j:Nat) (w:World) (h1:Rq w v1 qt) (h2:Rq w v2 qp) (hl:ag qt k) (hm:ag qp j) (hk:k<=400) (hj:j<=400):
 CQ 213 #[v1,v2] w (mof qt qp):=by
 by_cases h0:sz (Rat.num (qp))<=0
 ·have st:=St.start w
  refine go2 (nt:=15) Tryz.func213 rfl rfl rfl fun a hF=>wq ?_
  obtain⟨r2,rfl⟩:=Rq.fo h1
  refine bx st hF 0 rfl rfl fun g2 w1 a st hF=>?_
  obtain⟨r4,rfl⟩:=Rq.fo h2
  refine bx st hF 2 rfl rfl fun g3 w3 a st hF=>S.alloc st hF aa rfl rfl fun g4 w5 a st hF=>ns<|wq<|oL hF st 1 1 aa rfl rfl rfl rfl fun a hF=>cX st hF (rgc ju (aB hF.o)) (dK _ (qp) _ (h2.below st.bel)) rfl fun w6 a st hF=>oT hF 0 (bA (c:=true) (aD h0)) rfl rfl fun a hF=>E.nil<|wp_cond_true hF.o ?_
  refine wq<|oV hF (a7 (by simp) (gL _)) rfl fun a hF=>so st hF 0 4 0 aa rfl rfl rfl rfl fun w7 a st hF=>nr<|rs Tryz.results213 st hF 4 0 aa rfl rfl rfl ?_
  exact⟨_,rfl,Rq.castM (Rq.zero _) (Du h0),st.bel⟩
 ·have st:=St.start w
  refine go2 (nt:=15) Tryz.func213 rfl rfl rfl fun a hF=>wq ?_
  obtain⟨r2,rfl⟩:=Rq.fo h1
  refine bx st hF 0 rfl rfl fun g2 w1 a st hF=>?_
  obtain⟨r4,rfl⟩:=Rq.fo h2
  refine bx st hF 2 rfl rfl fun g3 w3 a st hF=>S.alloc st hF aa rfl rfl fun g4 w5 a st hF=>ns<|wq<|oL hF st 1 1 aa rfl rfl rfl rfl fun a hF=>cX st hF (rgc ju (aB hF.o)) (dK _ (qp) _ (h2.below st.bel)) rfl fun w6 a st hF=>oT hF 0 (bA (c:=false) (aK h0)) rfl rfl fun a hF=>E.nil<|wp_cond_false hF.o ?_
  refine wp_skip<|E.norm<|wq<|oL hF st 5 2 aa rfl rfl rfl rfl fun a hF=>oL hF st 5 1 aa rfl rfl rfl rfl fun a hF=>S.ck st hF (rgc F7 (aA hF.p hF.o)) (aw (uA _ _ (qt) (qp) k j _ (h1.below st.bel) (h2.below st.bel) hl hm (by omega) (by omega)) (pw hl hm)) Rl.cl rfl fun vv8 w7 a st hF=>?_
  obtain⟨r10,rfl⟩:=Rq.fo (st.f 0 rfl).1
  refine S.ck st hF (rgc Db (aB hF.o)) (AH (st.f 0 rfl)) Rl.cl rfl fun vv12 w11 a st hF=>?_
  obtain⟨r14,rfl⟩:=Rq.fo (st.f 0 rfl).1
  refine S.ck st hF (rgc k40 (aB ah)) ei Rl.cl rfl fun vv16 w15 a st hF=>?_
  obtain⟨r18,rfl⟩:=Rq.fo (st.f 0 rfl).1
  refine S.ck st hF (rgc cj (aA hF.p hF.o)) (cx (st.f 1 rfl) (st.f 0 rfl)) Rl.cl rfl fun vv20 w19 a st hF=>?_
  obtain⟨r22,rfl⟩:=Rq.fo (st.f 0 rfl).1
  refine so st hF 0 9 0 aa rfl rfl rfl rfl fun w23 a st hF=>nr<|rs Tryz.results213 st hF 9 0 aa rfl rfl rfl ?_
  exact⟨_,rfl,Rq.castM (st.f 0 rfl).1 (BU h0),st.bel⟩
theorem pi {w:World}:CP 103 #[] w (Ret (kq (pyr) (2)) w):=aw (xJ _) oI
theorem zw {w:World}:CP 255 #[] w (Ret (kq (pmo) (2)) w):=aw (uE _) oB
theorem jP {w:World}:CP 212 #[] w (Ret (kq (pay) (2)) w):=aw (nf _) l7
theorem nA {w:World}:CP 256 #[] w (Ret (kq (pam) (2)) w):=aw (ml _) oj
theorem uS {v1 v2:Value} {p1 p2:Rat} {k1 k2:Nat} {w:World} (x1:Rl p1 k1 w v1) (x2:Rl p2 k2 w v2) (a1:k1<=400:=by omega) (a2:k2<=400:=by omega):CP 213 #[v1,v2] w (Ret (kq (mof (p1) (p2)) ((k1+k2+5))) w):=aw (Ch _ _ (p1) (p2) k1 k2 _ x1.1 x2.1 x1.2 x2.2 (by omega) (by omega)) (md x1.2 x2.2)
end Go.Proofs.YtgdpkknapcgcbaaGreatDoor
