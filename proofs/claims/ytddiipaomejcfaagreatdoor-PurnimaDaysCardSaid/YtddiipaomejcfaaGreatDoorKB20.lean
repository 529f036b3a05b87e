import Derived.Test.YtddiipaomejcfaaGreatDoorKB19
namespace Go.Proofs.YtddiipaomejcfaaGreatDoor
open Go.RowKit
set_option maxRecDepth 100000
set_option linter.unusedVariables false
set_option maxHeartbeats 8000000
def cre:Rat:=((-714403429586:Int):Rat)
def mfr (q:Rat):Rat:=q-((q.floor:Int):Rat)
def bl (t p:Rat):Rat:=(t-cre)/p
def mof (t p:Rat):Rat:=if p<=0 then 0 else mfr (bl t p)*((360:Int):Rat)
def pyr:Rat:=((1577917828000:Int):Rat)/((4320000000:Int):Rat)
def pmo:Rat:=((1577917828:Int):Rat)/((57753336:Int):Rat)
def psy:Rat:=((1577917828:Int):Rat)/((53433336:Int):Rat)
def pay:Rat:=((1577917828000:Int):Rat)/((4319999613:Int):Rat)
def pam:Rat:=((1577917828:Int):Rat)/((57265137:Int):Rat)
theorem eu:((360:Int):Rat)=360:=rfl
theorem kd:0<pyr:=by decide+kernel
theorem Jb:0<pmo:=by decide+kernel
theorem jj:0<pay:=by decide+kernel
theorem sC:0<pam:=by decide+kernel
theorem JA (q:Rat):0<=mfr q:=by have:=eI q;unfold mfr;grind
theorem Ge (q:Rat):mfr q<1:=by have:=fk q;unfold mfr;grind
theorem EC (q:Rat) (n:Int):mfr (q+((n:Int):Rat))=mfr q:=by
 unfold mfr
 rw[Rat.floor_add_intCast,Rat.intCast_add]
 grind
theorem vc (q:Rat):mfr q=q+(((-q.floor:Int)):Rat):=by
 unfold mfr;rw[Rat.intCast_neg];grind
theorem s6 {t p:Rat} (h:0<p):mof t p=mfr (bl t p)*((360:Int):Rat):=by
 unfold mof;rw[if_neg (by grind)]
theorem Jr (t p:Rat):0<=mof t p:=by
 unfold mof
 split
 ·grind
 ·have:=JA (bl t p);rw[eu];grind
theorem D8 (t p:Rat):mof t p<((360:Int):Rat):=by
 unfold mof
 split
 ·rw[eu];grind
 ·have:=Ge (bl t p);rw[eu];grind
theorem jF {t p:Rat} (h:0<p):mof t p=((360:Int):Rat)*bl t p+((360:Int):Rat)*(((-(bl t p).floor :Int)):Rat):=by
 rw[s6 h,vc];grind
theorem o0 {x m:Rat} (h0:0<=x) (h1:x<m):rmod x m=x:=by
 have:=FV (x:=x) (a:=0) (b:=m) (by grind) h1
 unfold cV at this
 rw[if_neg (by grind),show x-0=x by grind,show m-0=m by grind] at this
 grind
theorem gR {x m:Rat} (h:0<m):rmod x m=x+m*(((-(x/m).floor :Int)):Rat):=by
 unfold rmod
 rw[if_neg (by grind),Rat.intCast_neg];grind
theorem En {x y m:Rat} (h:0<m):rmod (rmod x m+y) m=rmod (x+y) m:=by
 rw[gR (x:=x) h,show x+m*(((-(x/m).floor :Int)):Rat)+y=(x+y)+m*(((-(x/m).floor :Int)):Rat) by grind,jH _ h]
theorem Fe {x y m:Rat} (h:0<m):rmod (x-rmod y m) m=rmod (x-y) m:=by
 rw[gR (x:=y) h,show x-(y+m*(((-(y/m).floor :Int)):Rat))=(x-y)+m*((((y/m).floor :Int)):Rat) by rw[Rat.intCast_neg];grind,jH _ h]
theorem bj:(0:Rat)<((360:Int):Rat):=by decide+kernel
theorem LW (q:Rat):mfr q=mkRat (q.num%(q.den:Int)) q.den:=by
 have hm:q.num-q.floor*(q.den:Int)=q.num%(q.den:Int):=by
  rw[Rat.floor_def]
  have:=Int.mul_ediv_add_emod q.num (q.den:Int)
  rw[Int.mul_comm] at this
  omega
 unfold mfr
 rw[<-hm,Rat.mkRat_eq_div,Rat.intCast_sub,Rat.intCast_mul,Rat.intCast_natCast]
 have h:(q.den:Rat)≠0:=by
  intro e
  have:=Rat.natCast_pos.2 q.den_pos
  grind
 have e:(q.num:Rat)=q*(q.den:Rat):=by
  have h1:q=(q.num:Rat)/(q.den:Rat):=by rw[<-Rat.mkRat_eq_div,Rat.mkRat_self]
  have:q*(q.den:Rat)=(q.num:Rat)/(q.den:Rat)*(q.den:Rat):=by rw[<-h1]
  rw[this,Rat.div_mul_cancel h]
 rw[e]
 grind
theorem sT {q:Rat} {k:Nat} (h:aw q k):aw (mfr q) k:=by
 rw[LW]
 have h2:q.den<B32^k:=h.2
 have hd:=q.den_pos
 refine ml (show _<B32^k from ?_) h.2 (by omega)
 have h0:=Int.emod_nonneg q.num (b:=(q.den:Int)) (by omega)
 have h1:=Int.emod_lt_of_pos q.num (b:=(q.den:Int)) (by omega)
 omega
theorem wA {n:Int} (h0: -9223372036854775808<=n) (h1:n<=9223372036854775807):aw ((n:Int):Rat) 2:=cd (bH h0 h1) (by decide)
theorem jz {n d:Int} (h0: -9223372036854775808<=n) (h1:n<=9223372036854775807) (g0: -9223372036854775808<=d) (g1:d<=9223372036854775807):aw (((n:Int):Rat)/((d:Int):Rat)) 2:=(eB (bH h0 h1) (bH g0 g1)).up 2 (by decide)
theorem sZ:aw cre 2:=wA (by decide) (by decide)
theorem mw:aw pyr 2:=jz (by decide) (by decide) (by decide) (by decide)
theorem o9:aw pmo 2:=jz (by decide) (by decide) (by decide) (by decide)
theorem jb:aw pay 2:=jz (by decide) (by decide) (by decide) (by decide)
theorem pC:aw pam 2:=jz (by decide) (by decide) (by decide) (by decide)
theorem uj {t p:Rat} {k j:Nat} (h:aw t k) (hp:aw p j):aw (bl t p) (k+j+3):=(cZ (bS h sZ) hp).up _ (by omega)
theorem i7 {t p:Rat} {k j:Nat} (h:aw t k) (hp:aw p j):aw (mof t p) (k+j+5):=by
 unfold mof
 split
 ·exact jD (by omega)
 ·exact(a5 (sT (uj h hp)) (wA (n:=360) (by decide) (by decide))).up _ (by omega)
theorem fC {q:Rat} {k:Nat} (h:aw q k):aw (rmod q ((360:Int):Rat)) (k+4):=by
 have e:rmod q ((360:Int):Rat)=((360:Int):Rat)*mfr (q/((360:Int):Rat)):=by
  rw[gR bj,vc,eu];grind
 rw[e]
 have l:aw ((360:Int):Rat) 2:=wA (by decide) (by decide)
 exact(a5 l (sT (cZ h l))).up _ (by omega)
theorem GK {v1:Value} {p1:Rat} {k1:Nat} {w:World} (x1:Rl p1 k1 w v1) (a1:k1<=10000:=by omega):CP 238 #[v1] w (Ret (kq ((p1)-((Rat.floor (p1):Int):Rat)) ((k1+k1+3))) w):=aR (DH _ (p1) k1 _ x1.1 x1.2 (by omega)) (wE x1.2)
theorem Np {v1 v2:Value} {p1 p2:Rat} {k1 k2:Nat} {w:World} (x1:Rl p1 k1 w v1) (x2:Rl p2 k2 w v2) (a1:k1<=1000:=by omega) (a2:k2<=1000:=by omega):CP 180 #[v1,v2] w (Ret (kq (rmod (p1) (p2)) ((k1+k1+k2+k2+3))) w):=aR (qG _ _ (p1) (p2) k1 k2 _ x1.1 x2.1 x1.2 x2.2 (by omega) (by omega)) (kT (k:=k1) (j:=k2) x1.2 x2.2)
theorem Mj {v1 v2 v3:Value} {p1 p2 p3:Rat} {k1 k2 k3:Nat} {w:World} (x1:Rl p1 k1 w v1) (x2:Rl p2 k2 w v2) (x3:Rl p3 k3 w v3) (a1:k1<=400:=by omega) (a2:k2<=400:=by omega) (a3:k3<=400:=by omega):CP 240 #[v1,v2,v3] w (Ret (kq (cV (p1) (p2) (p3)) ((2*k1+5*k2+2*k3+8))) w):=aR (B9 _ _ _ (p1) (p2) (p3) k1 k2 k3 _ x1.1 x2.1 x3.1 x1.2 x2.2 x3.2 (by omega) (by omega) (by omega)) (nW (k:=k1) (j:=k2) (i:=k3) x1.2 x2.2 x3.2)
theorem GN {v1 v2:Value} {p1:Rat} {k1 k2:Nat} {w:World} (x1:Rl p1 k1 w v1) (x2:Rl ((360:Int):Rat) k2 w v2) (a1:k1<=1000:=by omega) (a2:k2<=1000:=by omega):CP 180 #[v1,v2] w (Ret (kq (rmod p1 ((360:Int):Rat)) (k1+4)) w):=aR (qG _ _ _ _ k1 k2 _ x1.1 x2.1 x1.2 x2.2 a1 a2) (fC x1.2)
theorem Cj (w:World):
 CQ 60 #[] w pyr:=by
 refine gs0 (nt:=2) Tryz.func60 rfl rfl fun a st hF=>wq<|S.alloc st hF ab rfl rfl fun g0 w1 a st hF=>nq<|S.ck st hF (rgc k62 (aF ao ao)) du Rl.cl rfl fun vv3 w2 a st hF=>?_
 obtain⟨r5,rfl⟩:=Rq.fo (st.f 0 rfl).1
 refine so st hF 0 1 0 ab rfl rfl rfl rfl fun w6 a st hF=>nr<|rs Tryz.results60 st hF 1 0 ab rfl rfl rfl ?_
 exact⟨_,rfl,(st.f 0 rfl).1,st.bel⟩
theorem Bd (w:World):
 CQ 221 #[] w pmo:=by
 refine gs0 (nt:=2) Tryz.func221 rfl rfl fun a st hF=>wq<|S.alloc st hF ab rfl rfl fun g0 w1 a st hF=>nq<|S.ck st hF (rgc k62 (aF ao ao)) du Rl.cl rfl fun vv3 w2 a st hF=>?_
 obtain⟨r5,rfl⟩:=Rq.fo (st.f 0 rfl).1
 refine so st hF 0 1 0 ab rfl rfl rfl rfl fun w6 a st hF=>nr<|rs Tryz.results221 st hF 1 0 ab rfl rfl rfl ?_
 exact⟨_,rfl,(st.f 0 rfl).1,st.bel⟩
theorem qv (w:World):
 CQ 212 #[] w pay:=by
 refine gs0 (nt:=2) Tryz.func212 rfl rfl fun a st hF=>wq<|S.alloc st hF ab rfl rfl fun g0 w1 a st hF=>nq<|S.ck st hF (rgc k62 (aF ao ao)) du Rl.cl rfl fun vv3 w2 a st hF=>?_
 obtain⟨r5,rfl⟩:=Rq.fo (st.f 0 rfl).1
 refine so st hF 0 1 0 ab rfl rfl rfl rfl fun w6 a st hF=>nr<|rs Tryz.results212 st hF 1 0 ab rfl rfl rfl ?_
 exact⟨_,rfl,(st.f 0 rfl).1,st.bel⟩
theorem pS (w:World):
 CQ 222 #[] w pam:=by
 refine gs0 (nt:=2) Tryz.func222 rfl rfl fun a st hF=>wq<|S.alloc st hF ab rfl rfl fun g0 w1 a st hF=>nq<|S.ck st hF (rgc k62 (aF ao ao)) du Rl.cl rfl fun vv3 w2 a st hF=>?_
 obtain⟨r5,rfl⟩:=Rq.fo (st.f 0 rfl).1
 refine so st hF 0 1 0 ab rfl rfl rfl rfl fun w6 a st hF=>nr<|rs Tryz.results222 st hF 1 0 ab rfl rfl rfl ?_
 exact⟨_,rfl,(st.f 0 rfl).1,st.bel⟩
theorem uy (w:World):
 CQ 255 #[] w cre:=by
 refine gs0 (nt:=2) Tryz.func255 rfl rfl fun a st hF=>wq<|S.alloc st hF ab rfl rfl fun g0 w1 a st hF=>nq<|S.ck st hF (rgc k52 (aD ao)) dv Rl.cl rfl fun vv3 w2 a st hF=>?_
 obtain⟨r5,rfl⟩:=Rq.fo (st.f 0 rfl).1
 refine so st hF 0 1 0 ab rfl rfl rfl rfl fun w6 a st hF=>nr<|rs Tryz.results255 st hF 1 0 ab rfl rfl rfl ?_
 exact⟨_,rfl,(st.f 0 rfl).1,st.bel⟩
theorem Ah (v1 v2:Value) (qt qp:Rat) (k j:Nat) (w:World) (h1:Rq w v1 qt) (h2:Rq w v2 qp) (hl:aw qt k) (hm:aw qp j) (hk:k<=400) (hj:j<=400):
 CQ 239 #[v1,v2] w (bl qt qp):=by
 refine gs2 (nt:=10) Tryz.func239 rfl rfl rfl fun a st hF=>wq ?_
 obtain⟨r2,rfl⟩:=Rq.fo h1
 refine bx st hF 0 rfl rfl fun g2 w1 a st hF=>?_
 obtain⟨r4,rfl⟩:=Rq.fo h2
 refine bx st hF 2 rfl rfl fun g3 w3 a st hF=>S.alloc st hF ab rfl rfl fun g4 w5 a st hF=>ns<|gz2 5 aG st hF ab 0 0 [5,6,7,8,9] [_,_,_,_,_] (by decide+kernel) rfl rfl rfl ⟨rb st ab 2 2 rfl,ck st Nu rfl fun _ s=>aR (uy _) sZ,ck st fJ rfl fun _ s _ x6=>fL ⟨(h1.below s.bel),hl⟩ x6,rb st ab 1 1 rfl,ck st mD rfl fun _ s _ x7=>nk x7 ⟨(h2.below s.bel),hm⟩,trivial⟩ fun r9 w10 a st hF=>nr<|rs Tryz.results239 st hF 1 0 ab rfl rfl rfl ?_
 exact⟨_,rfl,(st.f 0 rfl).1,st.bel⟩
theorem B5 {t p:Rat} (h:sz p.num<=0):(0:Rat)=mof t p:=by unfold mof;rw[if_pos (kL.1 h)]
theorem yT {t p:Rat} (h:¬sz p.num<=0):(bl t p-(((bl t p).floor :Int):Rat))*((360:Int):Rat)=mof t p:=by unfold mof mfr;rw[if_neg (fun e=>h (kL.2 e))]
theorem Hk (v1 v2:Value) (qt qp:Rat) (k j:Nat) (w:World) (h1:Rq w v1 qt) (h2:Rq w v2 qp) (hl:aw qt k) (hm:aw qp j) (hk:k<=400) (hj:j<=400):
 CQ 211 #[v1,v2] w (mof qt qp):=by
 by_cases h0:sz (Rat.num (qp))<=0
 ·have st:=St.start w
  refine go2 (nt:=15) Tryz.func211 rfl rfl rfl fun a hF=>wq ?_
  obtain⟨r2,rfl⟩:=Rq.fo h1
  refine bx st hF 0 rfl rfl fun g2 w1 a st hF=>?_
  obtain⟨r4,rfl⟩:=Rq.fo h2
  refine bx st hF 2 rfl rfl fun g3 w3 a st hF=>S.alloc st hF ab rfl rfl fun g4 w5 a st hF=>ns<|wq<|oL hF st 1 1 ab rfl rfl rfl rfl fun a hF=>cX st hF (rgc lN (aD hF.o)) (fB _ (qp) _ (h2.below st.bel)) rfl fun w6 a st hF=>oT hF 0 (bv (c:=true) (aK h0)) rfl rfl fun a hF=>E.nil<|wp_cond_true hF.o ?_
  refine wq<|oV hF (be (by simp) (jm _)) rfl fun a hF=>so st hF 0 4 0 ab rfl rfl rfl rfl fun w7 a st hF=>nr<|rs Tryz.results211 st hF 4 0 ab rfl rfl rfl ?_
  exact⟨_,rfl,Rq.castM (Rq.zero _) (B5 h0),st.bel⟩
 ·have st:=St.start w
  refine go2 (nt:=15) Tryz.func211 rfl rfl rfl fun a hF=>wq ?_
  obtain⟨r2,rfl⟩:=Rq.fo h1
  refine bx st hF 0 rfl rfl fun g2 w1 a st hF=>?_
  obtain⟨r4,rfl⟩:=Rq.fo h2
  refine bx st hF 2 rfl rfl fun g3 w3 a st hF=>S.alloc st hF ab rfl rfl fun g4 w5 a st hF=>ns<|wq<|oL hF st 1 1 ab rfl rfl rfl rfl fun a hF=>cX st hF (rgc lN (aD hF.o)) (fB _ (qp) _ (h2.below st.bel)) rfl fun w6 a st hF=>oT hF 0 (bv (c:=false) (aL h0)) rfl rfl fun a hF=>E.nil<|wp_cond_false hF.o ?_
  refine wp_skip<|E.norm<|wq<|oL hF st 5 2 ab rfl rfl rfl rfl fun a hF=>oL hF st 5 1 ab rfl rfl rfl rfl fun a hF=>S.ck st hF (rgc Ow (aF hF.p hF.o)) (aR (Ah _ _ (qt) (qp) k j _ (h1.below st.bel) (h2.below st.bel) hl hm (by omega) (by omega)) (uj hl hm)) Rl.cl rfl fun vv8 w7 a st hF=>?_
  obtain⟨r10,rfl⟩:=Rq.fo (st.f 0 rfl).1
  refine S.ck st hF (rgc Lg (aD hF.o)) (GK (st.f 0 rfl)) Rl.cl rfl fun vv12 w11 a st hF=>?_
  obtain⟨r14,rfl⟩:=Rq.fo (st.f 0 rfl).1
  refine S.ck st hF (rgc k52 (aD ao)) dv Rl.cl rfl fun vv16 w15 a st hF=>?_
  obtain⟨r18,rfl⟩:=Rq.fo (st.f 0 rfl).1
  refine S.ck st hF (rgc k61 (aF hF.p hF.o)) (cN (st.f 1 rfl) (st.f 0 rfl)) Rl.cl rfl fun vv20 w19 a st hF=>?_
  obtain⟨r22,rfl⟩:=Rq.fo (st.f 0 rfl).1
  refine so st hF 0 9 0 ab rfl rfl rfl rfl fun w23 a st hF=>nr<|rs Tryz.results211 st hF 9 0 ab rfl rfl rfl ?_
  exact⟨_,rfl,Rq.castM (st.f 0 rfl).1 (yT h0),st.bel⟩
theorem mr {w:World}:CP 60 #[] w (Ret (kq (pyr) (2)) w):=aR (Cj _) mw
theorem Ga {w:World}:CP 221 #[] w (Ret (kq (pmo) (2)) w):=aR (Bd _) o9
theorem lU {w:World}:CP 212 #[] w (Ret (kq (pay) (2)) w):=aR (qv _) jb
theorem sm {w:World}:CP 222 #[] w (Ret (kq (pam) (2)) w):=aR (pS _) pC
theorem Ay {v1 v2:Value} {p1 p2:Rat} {k1 k2:Nat} {w:World} (x1:Rl p1 k1 w v1) (x2:Rl p2 k2 w v2) (a1:k1<=400:=by omega) (a2:k2<=400:=by omega):CP 211 #[v1,v2] w (Ret (kq (mof (p1) (p2)) ((k1+k2+5))) w):=aR (Hk _ _ (p1) (p2) k1 k2 _ x1.1 x2.1 x1.2 x2.2 (by omega) (by omega)) (i7 x1.2 x2.2)
end Go.Proofs.YtddiipaomejcfaaGreatDoor
