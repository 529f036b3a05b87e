import Derived.Test.YtgdpkknapcgcbaaGreatDoorKD15
namespace Go.Proofs.YtgdpkknapcgcbaaGreatDoor
open Go.RowKit
set_option maxRecDepth 100000
set_option linter.unusedVariables false
set_option maxHeartbeats 8000000
def cre:Rat:=((-714403429586:Int):Rat)
def mfr (q:Rat):Rat:=q-((q.floor:Int):Rat)
def aW (t p:Rat):Rat:=(t-cre)/p
def mof (t p:Rat):Rat:=if p<=0 then 0 else mfr (aW t p)*((360:Int):Rat)
def pyr:Rat:=((1577917828000:Int):Rat)/((4320000000:Int):Rat)
def pmo:Rat:=((1577917828:Int):Rat)/((57753336:Int):Rat)
def psy:Rat:=((1577917828:Int):Rat)/((53433336:Int):Rat)
def pay:Rat:=((1577917828000:Int):Rat)/((4319999613:Int):Rat)
def pam:Rat:=((1577917828:Int):Rat)/((57265137:Int):Rat)
theorem dE:((360:Int):Rat)=360:=rfl
theorem fJ:0<pyr:=by decide+kernel
theorem Eu:0<pmo:=by decide+kernel
theorem gh:0<pay:=by decide+kernel
theorem pM:0<pam:=by decide+kernel
theorem Ev (q:Rat):0<=mfr q:=by have:=cY q;unfold mfr;grind
theorem BM (q:Rat):mfr q<1:=by have:=dr q;unfold mfr;grind
theorem AX (q:Rat) (n:Int):mfr (q+((n:Int):Rat))=mfr q:=by
 unfold mfr
 rw[Rat.floor_add_intCast,Rat.intCast_add]
 grind
theorem tl (q:Rat):mfr q=q+(((-q.floor:Int)):Rat):=by
 unfold mfr;rw[Rat.intCast_neg];grind
theorem pG {t p:Rat} (h:0<p):mof t p=mfr (aW t p)*((360:Int):Rat):=by
 unfold mof;rw[if_neg (by grind)]
theorem wN {t p:Rat} (n:Int) (h:0<p):aW (t+p*((n:Int):Rat)) p=aW t p+((n:Int):Rat):=by
 unfold aW
 have:p≠0:=by grind
 grind
theorem DP (t p:Rat):0<=mof t p:=by
 unfold mof
 split
 ·grind
 ·have:=Ev (aW t p);rw[dE];grind
theorem AY (t p:Rat):mof t p<((360:Int):Rat):=by
 unfold mof
 split
 ·rw[dE];grind
 ·have:=BM (aW t p);rw[dE];grind
theorem ik {t p:Rat} (h:0<p):mof t p=((360:Int):Rat)*aW t p+((360:Int):Rat)*(((-(aW t p).floor :Int)):Rat):=by
 rw[pG h,tl];grind
theorem D3 {x m:Rat} (h0:0<=x) (h1:x<m):rmod x m=x:=by
 have:=zT (x:=x) (a:=0) (b:=m) (by grind) h1
 unfold cO at this
 rw[if_neg (by grind),show x-0=x by grind,show m-0=m by grind] at this
 grind
theorem eF {x m:Rat} (h:0<m):rmod x m=x+m*(((-(x/m).floor :Int)):Rat):=by
 unfold rmod
 rw[if_neg (by grind),Rat.intCast_neg];grind
theorem Ay {x y m:Rat} (h:0<m):rmod (rmod x m+y) m=rmod (x+y) m:=by
 rw[eF (x:=x) h,show x+m*(((-(x/m).floor :Int)):Rat)+y=(x+y)+m*(((-(x/m).floor :Int)):Rat) by grind,iy _ h]
theorem Bl {x y m:Rat} (h:0<m):rmod (x-rmod y m) m=rmod (x-y) m:=by
 rw[eF (x:=y) h,show x-(y+m*(((-(y/m).floor :Int)):Rat))=(x-y)+m*((((y/m).floor :Int)):Rat) by rw[Rat.intCast_neg];grind,iy _ h]
theorem bQ:(0:Rat)<((360:Int):Rat):=by decide+kernel
theorem Ge (q:Rat):mfr q=mkRat (q.num%(q.den:Int)) q.den:=by
 have hm:q.num-q.floor*(q.den:Int)=q.num%(q.den:Int):=by
  rw[Rat.floor_def]
  have:=Int.mul_ediv_add_emod q.num (q.den:Int)
  rw[Int.mul_comm] at this
  omega
 unfold mfr
 rw[<-hm,Rat.mkRat_eq_div,Rat.intCast_sub,Rat.intCast_mul,Rat.intCast_natCast]
 have h:(q.den:Rat)≠0:=by
  intro e
  have:=Rat.natCast_pos.2 q.den_pos
  grind
 have e:(q.num:Rat)=q*(q.den:Rat):=by
  have h1:q=(q.num:Rat)/(q.den:Rat):=by rw[<-Rat.mkRat_eq_div,Rat.mkRat_self]
  have:q*(q.den:Rat)=(q.num:Rat)/(q.den:Rat)*(q.den:Rat):=by rw[<-h1]
  rw[this,Rat.div_mul_cancel h]
 rw[e]
 grind
theorem pw {q:Rat} {k:Nat} (h:ag q k):ag (mfr q) k:=by
 rw[Ge]
 have h2:q.den<B32^k:=h.2
 have hd:=q.den_pos
 refine mU (show _<B32^k from ?_) h.2 (by omega)
 have h0:=Int.emod_nonneg q.num (b:=(q.den:Int)) (by omega)
 have h1:=Int.emod_lt_of_pos q.num (b:=(q.den:Int)) (by omega)
 omega
theorem tF {n:Int} (h0: -9223372036854775808<=n) (h1:n<=9223372036854775807):ag ((n:Int):Rat) 2:=ch (bL h0 h1) (by decide)
theorem iu {n d:Int} (h0: -9223372036854775808<=n) (h1:n<=9223372036854775807) (g0: -9223372036854775808<=d) (g1:d<=9223372036854775807):ag (((n:Int):Rat)/((d:Int):Rat)) 2:=(eK (bL h0 h1) (bL g0 g1)).up 2 (by decide)
theorem vR:ag cre 2:=tF (by decide) (by decide)
theorem pN:ag pyr 2:=iu (by decide) (by decide) (by decide) (by decide)
theorem pI:ag pmo 2:=iu (by decide) (by decide) (by decide) (by decide)
theorem mv:ag pay 2:=iu (by decide) (by decide) (by decide) (by decide)
theorem pL:ag pam 2:=iu (by decide) (by decide) (by decide) (by decide)
theorem qU {t p:Rat} {k j:Nat} (h:ag t k) (hp:ag p j):ag (aW t p) (k+j+3):=(cZ (bV h vR) hp).up _ (by omega)
theorem mL {t p:Rat} {k j:Nat} (h:ag t k) (hp:ag p j):ag (mof t p) (k+j+5):=by
 unfold mof
 split
 ·exact ip (by omega)
 ·exact(aM (pw (qU h hp)) (tF (n:=360) (by decide) (by decide))).up _ (by omega)
theorem fj {q:Rat} {k:Nat} (h:ag q k):ag (rmod q ((360:Int):Rat)) (k+4):=by
 have e:rmod q ((360:Int):Rat)=((360:Int):Rat)*mfr (q/((360:Int):Rat)):=by
  rw[eF bQ,tl,dE];grind
 rw[e]
 have l:ag ((360:Int):Rat) 2:=tF (by decide) (by decide)
 exact(aM l (pw (cZ h l))).up _ (by omega)
theorem wy {t p:Rat} (n:Int) (h:0<p):aW (t+p*((n:Int):Rat)) p-aW t p=((n:Int):Rat):=by
 rw[wN n h];grind
theorem Co {v1:Value} {p1:Rat} {k1:Nat} {w:World} (x1:Rl p1 k1 w v1) (a1:k1<=10000:=by omega):CP 257 #[v1] w (Ret (kq ((p1)-((Rat.floor (p1):Int):Rat)) ((k1+k1+3))) w):=aB (zo _ (p1) k1 _ x1.1 x1.2 (by omega)) (tB x1.2)
theorem IR {v1 v2:Value} {p1 p2:Rat} {k1 k2:Nat} {w:World} (x1:Rl p1 k1 w v1) (x2:Rl p2 k2 w v2) (a1:k1<=1000:=by omega) (a2:k2<=1000:=by omega):CP 211 #[v1,v2] w (Ret (kq (rmod (p1) (p2)) ((k1+k1+k2+k2+3))) w):=aB (nA _ _ (p1) (p2) k1 k2 _ x1.1 x2.1 x1.2 x2.2 (by omega) (by omega)) (kK (k:=k1) (j:=k2) x1.2 x2.2)
theorem Ic {v1 v2 v3:Value} {p1 p2 p3:Rat} {k1 k2 k3:Nat} {w:World} (x1:Rl p1 k1 w v1) (x2:Rl p2 k2 w v2) (x3:Rl p3 k3 w v3) (a1:k1<=400:=by omega) (a2:k2<=400:=by omega) (a3:k3<=400:=by omega):CP 283 #[v1,v2,v3] w (Ret (kq (cO (p1) (p2) (p3)) ((2*k1+5*k2+2*k3+8))) w):=aB (yg _ _ _ (p1) (p2) (p3) k1 k2 k3 _ x1.1 x2.1 x3.1 x1.2 x2.2 x3.2 (by omega) (by omega) (by omega)) (qQ (k:=k1) (j:=k2) (i:=k3) x1.2 x2.2 x3.2)
theorem Ce {v1 v2:Value} {p1:Rat} {k1 k2:Nat} {w:World} (x1:Rl p1 k1 w v1) (x2:Rl ((360:Int):Rat) k2 w v2) (a1:k1<=1000:=by omega) (a2:k2<=1000:=by omega):CP 211 #[v1,v2] w (Ret (kq (rmod p1 ((360:Int):Rat)) (k1+4)) w):=aB (nA _ _ _ _ k1 k2 _ x1.1 x2.1 x1.2 x2.2 a1 a2) (fj x1.2)
theorem xT (w:World):
 CQ 103 #[] w pyr:=by
 refine gs0 (nt:=2) Tryz.func103 rfl rfl fun a st hF=>wq<|S.alloc st hF aa rfl rfl fun g0 w1 a st hF=>nq<|S.ck st hF (rgc k36 (aK ah ah)) cJ Rl.cl rfl fun vv3 w2 a st hF=>?_
 obtain⟨r5,rfl⟩:=Rq.fo (st.f 0 rfl).1
 refine so st hF 0 1 0 aa rfl rfl rfl rfl fun w6 a st hF=>nr<|rs Tryz.results103 st hF 1 0 aa rfl rfl rfl ?_
 exact⟨_,rfl,(st.f 0 rfl).1,st.bel⟩
theorem xu (w:World):
 CQ 255 #[] w pmo:=by
 refine gs0 (nt:=2) Tryz.func255 rfl rfl fun a st hF=>wq<|S.alloc st hF aa rfl rfl fun g0 w1 a st hF=>nq<|S.ck st hF (rgc k36 (aK ah ah)) cJ Rl.cl rfl fun vv3 w2 a st hF=>?_
 obtain⟨r5,rfl⟩:=Rq.fo (st.f 0 rfl).1
 refine so st hF 0 1 0 aa rfl rfl rfl rfl fun w6 a st hF=>nr<|rs Tryz.results255 st hF 1 0 aa rfl rfl rfl ?_
 exact⟨_,rfl,(st.f 0 rfl).1,st.bel⟩
theorem oj (w:World):
 CQ 212 #[] w pay:=by
 refine gs0 (nt:=2) Tryz.func212 rfl rfl fun a st hF=>wq<|S.alloc st hF aa rfl rfl fun g0 w1 a st hF=>nq<|S.ck st hF (rgc k36 (aK ah ah)) cJ Rl.cl rfl fun vv3 w2 a st hF=>?_
 obtain⟨r5,rfl⟩:=Rq.fo (st.f 0 rfl).1
 refine so st hF 0 1 0 aa rfl rfl rfl rfl fun w6 a st hF=>nr<|rs Tryz.results212 st hF 1 0 aa rfl rfl rfl ?_
 exact⟨_,rfl,(st.f 0 rfl).1,st.bel⟩
theorem mW (w:World):
 CQ 256 #[] w pam:=by
 refine gs0 (nt:=2) Tryz.func256 rfl rfl fun a st hF=>wq<|S.alloc st hF aa rfl rfl fun g0 w1 a st hF=>nq<|S.ck st hF (rgc k36 (aK ah ah)) cJ Rl.cl rfl fun vv3 w2 a st hF=>?_
 obtain⟨r5,rfl⟩:=Rq.fo (st.f 0 rfl).1
 refine so st hF 0 1 0 aa rfl rfl rfl rfl fun w6 a st hF=>nr<|rs Tryz.results256 st hF 1 0 aa rfl rfl rfl ?_
 exact⟨_,rfl,(st.f 0 rfl).1,st.bel⟩
theorem q8 (w:World):
 CQ 277 #[] w cre:=by
 refine gs0 (nt:=2) Tryz.func277 rfl rfl fun a st hF=>wq<|S.alloc st hF aa rfl rfl fun g0 w1 a st hF=>nq<|S.ck st hF (rgc k40 (aC ah)) cH Rl.cl rfl fun vv3 w2 a st hF=>?_
 obtain⟨r5,rfl⟩:=Rq.fo (st.f 0 rfl).1
 refine so st hF 0 1 0 aa rfl rfl rfl rfl fun w6 a st hF=>nr<|rs Tryz.results277 st hF 1 0 aa rfl rfl rfl ?_
 exact⟨_,rfl,(st.f 0 rfl).1,st.bel⟩
theorem wE (v1 v2:Value) (qt qp:Rat) (k j:Nat) (w:World) (h1:Rq w v1 qt) (h2:Rq w v2 qp) (hl:ag qt k) (hm:ag qp j) (hk:k<=400) (hj:j<=400):
 CQ 258 #[v1,v2] w (aW qt qp):=by
 refine gs2 (nt:=10) Tryz.func258 rfl rfl rfl fun a st hF=>wq ?_
 obtain⟨r2,rfl⟩:=Rq.fo h1
 refine bx st hF 0 rfl rfl fun g2 w1 a st hF=>?_
 obtain⟨r4,rfl⟩:=Rq.fo h2
 refine bx st hF 2 rfl rfl fun g3 w3 a st hF=>S.alloc st hF aa rfl rfl fun g4 w5 a st hF=>ns<|gz2 5 aI st hF aa 0 0 [5,6,7,8,9] [_,_,_,_,_] (by decide+kernel) rfl rfl rfl ⟨rb st aa 2 2 rfl,ck st Iw rfl fun _ s=>aB (q8 _) vR,ck st k35 rfl fun _ s _ x6=>eg ⟨(h1.below s.bel),hl⟩ x6,rb st aa 1 1 rfl,ck st kP rfl fun _ s _ x7=>li x7 ⟨(h2.below s.bel),hm⟩,trivial⟩ fun r9 w10 a st hF=>nr<|rs Tryz.results258 st hF 1 0 aa rfl rfl rfl ?_
 exact⟨_,rfl,(st.f 0 rfl).1,st.bel⟩
theorem FA {t p:Rat} (h:sz p.num<=0):(0:Rat)=mof t p:=by unfold mof;rw[if_pos (jV.1 h)]
theorem EX {t p:Rat} (h:¬sz p.num<=0):(aW t p-(((aW t p).floor :Int):Rat))*((360:Int):Rat)=mof t p:=by unfold mof mfr;rw[if_neg (fun e=>h (jV.2 e))]
theorem EI (v1 v2:Value) (qt qp:Rat) (k j:Nat) (w:World) (h1:Rq w v1 qt) (h2:Rq w v2 qp) (hl:ag qt k) (hm:ag qp j) (hk:k<=400) (hj:j<=400):
 CQ 213 #[v1,v2] w (mof qt qp):=by
 by_cases h0:sz (Rat.num (qp))<=0
 ·have st:=St.start w
  refine go2 (nt:=15) Tryz.func213 rfl rfl rfl fun a hF=>wq ?_
  obtain⟨r2,rfl⟩:=Rq.fo h1
  refine bx st hF 0 rfl rfl fun g2 w1 a st hF=>?_
  obtain⟨r4,rfl⟩:=Rq.fo h2
  refine bx st hF 2 rfl rfl fun g3 w3 a st hF=>S.alloc st hF aa rfl rfl fun g4 w5 a st hF=>ns<|wq<|oL hF st 1 1 aa rfl rfl rfl rfl fun a hF=>cX st hF (rgc jT (aC hF.o)) (eh _ (qp) _ (h2.below st.bel)) rfl fun w6 a st hF=>oT hF 0 (bP (c:=true) (aJ h0)) rfl rfl fun a hF=>E.nil<|wp_cond_true hF.o ?_
  refine wq<|oV hF (bB (by simp) (gS _)) rfl fun a hF=>so st hF 0 4 0 aa rfl rfl rfl rfl fun w7 a st hF=>nr<|rs Tryz.results213 st hF 4 0 aa rfl rfl rfl ?_
  exact⟨_,rfl,Rq.castM (Rq.zero _) (FA h0),st.bel⟩
 ·have st:=St.start w
  refine go2 (nt:=15) Tryz.func213 rfl rfl rfl fun a hF=>wq ?_
  obtain⟨r2,rfl⟩:=Rq.fo h1
  refine bx st hF 0 rfl rfl fun g2 w1 a st hF=>?_
  obtain⟨r4,rfl⟩:=Rq.fo h2
  refine bx st hF 2 rfl rfl fun g3 w3 a st hF=>S.alloc st hF aa rfl rfl fun g4 w5 a st hF=>ns<|wq<|oL hF st 1 1 aa rfl rfl rfl rfl fun a hF=>cX st hF (rgc jT (aC hF.o)) (eh _ (qp) _ (h2.below st.bel)) rfl fun w6 a st hF=>oT hF 0 (bP (c:=false) (aH h0)) rfl rfl fun a hF=>E.nil<|wp_cond_false hF.o ?_
  refine wp_skip<|E.norm<|wq<|oL hF st 5 2 aa rfl rfl rfl rfl fun a hF=>oL hF st 5 1 aa rfl rfl rfl rfl fun a hF=>S.ck st hF (rgc I5 (aK hF.p hF.o)) (aB (wE _ _ (qt) (qp) k j _ (h1.below st.bel) (h2.below st.bel) hl hm (by omega) (by omega)) (qU hl hm)) Rl.cl rfl fun vv8 w7 a st hF=>?_
  obtain⟨r10,rfl⟩:=Rq.fo (st.f 0 rfl).1
  refine S.ck st hF (rgc Gs (aC hF.o)) (Co (st.f 0 rfl)) Rl.cl rfl fun vv12 w11 a st hF=>?_
  obtain⟨r14,rfl⟩:=Rq.fo (st.f 0 rfl).1
  refine S.ck st hF (rgc k40 (aC ah)) cH Rl.cl rfl fun vv16 w15 a st hF=>?_
  obtain⟨r18,rfl⟩:=Rq.fo (st.f 0 rfl).1
  refine S.ck st hF (rgc co (aK hF.p hF.o)) (cv (st.f 1 rfl) (st.f 0 rfl)) Rl.cl rfl fun vv20 w19 a st hF=>?_
  obtain⟨r22,rfl⟩:=Rq.fo (st.f 0 rfl).1
  refine so st hF 0 9 0 aa rfl rfl rfl rfl fun w23 a st hF=>nr<|rs Tryz.results213 st hF 9 0 aa rfl rfl rfl ?_
  exact⟨_,rfl,Rq.castM (st.f 0 rfl).1 (EX h0),st.bel⟩
theorem iX {w:World}:CP 103 #[] w (Ret (kq (pyr) (2)) w):=aB (xT _) pN
theorem BF {w:World}:CP 255 #[] w (Ret (kq (pmo) (2)) w):=aB (xu _) pI
theorem kh {w:World}:CP 212 #[] w (Ret (kq (pay) (2)) w):=aB (oj _) mv
theorem pm {w:World}:CP 256 #[] w (Ret (kq (pam) (2)) w):=aB (mW _) pL
theorem wP {v1 v2:Value} {p1 p2:Rat} {k1 k2:Nat} {w:World} (x1:Rl p1 k1 w v1) (x2:Rl p2 k2 w v2) (a1:k1<=400:=by omega) (a2:k2<=400:=by omega):CP 213 #[v1,v2] w (Ret (kq (mof (p1) (p2)) ((k1+k2+5))) w):=aB (EI _ _ (p1) (p2) k1 k2 _ x1.1 x2.1 x1.2 x2.2 (by omega) (by omega)) (mL x1.2 x2.2)
end Go.Proofs.YtgdpkknapcgcbaaGreatDoor
