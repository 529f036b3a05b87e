import Derived.Test.YtgdpkknapcgcbaaGreatDoorKB23
namespace Go.Proofs.YtgdpkknapcgcbaaGreatDoor
open Go.RowKit
set_option maxRecDepth 100000
set_option linter.unusedVariables false
set_option maxHeartbeats 8000000
def bT (t:Rat):Rat:=((360:Int):Rat)*aX t pyr-dD t
def bD (t:Rat):Rat:=((360:Int):Rat)*aX t pmo-l8 t
def phU (t:Rat):Rat:=bD t-bT t
theorem rO (t:Rat):bp t=rmod (bT t) ((360:Int):Rat):=by
 unfold bp bT dD atv
 rw[ia (t:=t) oX,show((360:Int):Rat)*aX t pyr+((360:Int):Rat)*(((-(aX t pyr).floor :Int)):Rat)-eqv t pay ssz sch=(((360:Int):Rat)*aX t pyr-eqv t pay ssz sch)+((360:Int):Rat)*(((-(aX t pyr).floor :Int)):Rat) by grind,f8 _ aN]
theorem ou (t:Rat):bK t=rmod (bD t) ((360:Int):Rat):=by
 unfold bK bD l8 atv
 rw[ia (t:=t) BI,show((360:Int):Rat)*aX t pmo+((360:Int):Rat)*(((-(aX t pmo).floor :Int)):Rat)-eqv t pam msz mch=(((360:Int):Rat)*aX t pmo-eqv t pam msz mch)+((360:Int):Rat)*(((-(aX t pmo).floor :Int)):Rat) by grind,f8 _ aN]
theorem kO (t:Rat):bM t=rmod (phU t) ((360:Int):Rat):=by
 unfold bM phU
 rw[ou,rO,rV]
theorem A2 (t:Rat):rmod (bK t+bp t) ((360:Int):Rat)=rmod (bD t+bT t) ((360:Int):Rat):=by
 rw[ou,rO,dP (x:=bD t) aN,dP (x:=bT t) aN]
 rw[show bD t+((360:Int):Rat)*(((-(bD t/((360:Int):Rat)).floor :Int)):Rat)+(bT t+((360:Int):Rat)*(((-(bT t/((360:Int):Rat)).floor :Int)):Rat))=bD t+bT t+((360:Int):Rat)*(((-(bD t/((360:Int):Rat)).floor + -(bT t/((360:Int):Rat)).floor :Int)):Rat) by rw[Rat.intCast_add];grind,f8 _ aN]
theorem yl (t d:Rat):(dD (t+d)-dD t).abs <=ssz*(225/224)*(((360:Int):Rat)*(d/pay)).abs :=
 oZ (n:=0) gJ (by decide+kernel) (by decide+kernel) (by decide+kernel) (by decide+kernel) (by rw[fe,Rat.intCast_zero];grind)
theorem xq (t d:Rat):(l8 (t+d)-l8 t).abs <=msz*(225/224)*(((360:Int):Rat)*(d/pam)).abs :=
 oZ (n:=0) tV (by decide+kernel) (by decide+kernel) (by decide+kernel) (by decide+kernel) (by rw[fe,Rat.intCast_zero];grind)
theorem pV {s c d:Rat} (hs:0<=s) (hc:0<c) (hd:0<=d):s*(((360:Int):Rat)*(d/c)).abs =s*((360:Int):Rat)/c*d:=by
 have h:(0:Rat)<=((360:Int):Rat)*(d/c):=Rat.mul_nonneg (by decide) (by rw[Rat.div_def];exact Rat.mul_nonneg hd (Rat.le_of_lt (Rat.inv_pos.2 hc)))
 rw[Rat.abs_of_nonneg h,Rat.div_def,Rat.div_def];grind
theorem mQ (t:Rat) {d:Rat} (hd:0<=d):9471/10000*d<=bT (t+d)-bT t/\bT (t+d)-bT t<=10242/10000*d:=by
 have l:=dQ (yl t d)
 rw[pV (s:=ssz*(225/224)) (by decide+kernel) gJ hd] at l
 have k:ssz*(225/224)*((360:Int):Rat)/pay<385015/10000000:=by decide+kernel
 have k1:985602/1000000<((360:Int):Rat)/pyr:=by decide+kernel
 have k2:((360:Int):Rat)/pyr<985603/1000000:=by decide+kernel
 have e:bT (t+d)-bT t=((360:Int):Rat)/pyr*d-(dD (t+d)-dD t):=by
  unfold bT;rw[fe,Rat.div_def,Rat.div_def];grind
 have m:=Rat.mul_nonneg (a:=385015/10000000-ssz*(225/224)*((360:Int):Rat)/pay) (b:=d) (by grind) hd
 have m1:=Rat.mul_nonneg (a:=((360:Int):Rat)/pyr-985602/1000000) (b:=d) (by grind) hd
 have m2:=Rat.mul_nonneg (a:=985603/1000000-((360:Int):Rat)/pyr) (b:=d) (by grind) hd
 rw[e]
 generalize ssz*(225/224)*((360:Int):Rat)/pay=x at*
 generalize ((360:Int):Rat)/pyr=y at*
 constructor <;> grind
theorem k9 (t:Rat) {d:Rat} (hd:0<=d):12009/1000*d<=bD (t+d)-bD t/\bD (t+d)-bD t<=14343/1000*d:=by
 have l:=dQ (xq t d)
 rw[pV (s:=msz*(225/224)) (by decide+kernel) tV hd] at l
 have k:msz*(225/224)*((360:Int):Rat)/pam<11666/10000:=by decide+kernel
 have k1:1317635/100000<((360:Int):Rat)/pmo:=by decide+kernel
 have k2:((360:Int):Rat)/pmo<1317636/100000:=by decide+kernel
 have e:bD (t+d)-bD t=((360:Int):Rat)/pmo*d-(l8 (t+d)-l8 t):=by
  unfold bD;rw[fe,Rat.div_def,Rat.div_def];grind
 have m:=Rat.mul_nonneg (a:=11666/10000-msz*(225/224)*((360:Int):Rat)/pam) (b:=d) (by grind) hd
 have m1:=Rat.mul_nonneg (a:=((360:Int):Rat)/pmo-1317635/100000) (b:=d) (by grind) hd
 have m2:=Rat.mul_nonneg (a:=1317636/100000-((360:Int):Rat)/pmo) (b:=d) (by grind) hd
 rw[e]
 generalize msz*(225/224)*((360:Int):Rat)/pam=x at*
 generalize ((360:Int):Rat)/pmo=y at*
 constructor <;> grind
theorem iy (t:Rat) {d:Rat} (hd:0<=d):1098/100*d<=phU (t+d)-phU t/\phU (t+d)-phU t<=134/10*d:=by
 have a:=mQ t hd
 have b:=k9 t hd
 unfold phU
 constructor <;> grind
def full (t:Rat):Bool:=decide (((180:Int):Rat)<=bM t)
def turn (t:Rat):Int:=(phU t/((360:Int):Rat)).floor
theorem jA (t:Rat):((360:Int):Rat)*((turn t:Int):Rat)<=phU t/\phU t<((360:Int):Rat)*((turn t:Int):Rat)+360:=by
 have a:=dF (phU t/((360:Int):Rat))
 have b:=ec (phU t/((360:Int):Rat))
 have e:phU t=phU t/((360:Int):Rat)*((360:Int):Rat):=(Rat.div_mul_cancel (by decide)).symm
 unfold turn
 rw[eO] at*
 constructor <;> grind
theorem tI {t:Rat} {j:Int} (h0:((360:Int):Rat)*((j:Int):Rat)<=phU t) (h1:phU t<((360:Int):Rat)*((j:Int):Rat)+360):turn t=j:=by
 have b:=jA t
 rw[eO] at*
 have u:((turn t:Int):Rat)<((j+1:Int):Rat):=by rw[Rat.intCast_add,Rat.intCast_one];grind
 have l:((j:Int):Rat)<((turn t+1:Int):Rat):=by rw[Rat.intCast_add,Rat.intCast_one];grind
 have:=Rat.intCast_lt_intCast.1 u
 have:=Rat.intCast_lt_intCast.1 l
 omega
theorem nF (t:Rat):bM t=phU t-((360:Int):Rat)*((turn t:Int):Rat):=by
 rw[kO,dP aN]
 unfold turn
 rw[Rat.intCast_neg];grind
theorem pC (t:Rat) {d:Rat} (h0:0<=d) (h1:d<=1):(turn (t+d)=turn t/\bM (t+d)=bM t+(phU (t+d)-phU t))\/(turn (t+d)=turn t+1/\bM (t+d)=bM t+(phU (t+d)-phU t)-360):=by
 have r:=iy t h0
 have b:=jA t
 have c:=jA (t+d)
 have p:=nF t
 have q:=nF (t+d)
 rw[eO] at*
 by_cases h:phU (t+d)<360*((turn t:Int):Rat)+360
 ·have e:turn (t+d)=turn t:=tI (by rw[eO];grind) (by rw[eO];grind)
  rw[e] at q
  exact .inl ⟨e,by grind⟩
 ·have e:turn (t+d)=turn t+1:=tI (by rw[eO,Rat.intCast_add,Rat.intCast_one];grind) (by rw[eO,Rat.intCast_add,Rat.intCast_one];grind)
  rw[e,Rat.intCast_add,Rat.intCast_one] at q
  exact .inr ⟨e,by grind⟩
theorem qw (t:Rat):0<=bM t/\bM t<360:=by
 have a:=gw t
 have b:=fO t
 rw[eO] at b
 exact⟨a,b⟩
theorem yE (t:Rat) {d:Rat} (h0:0<=d) (h1:d<=1):(full t=true/\full (t+d)=false)↔turn (t+d)=turn t+1:=by
 have r:=iy t h0
 have a:=qw t
 have b:=qw (t+d)
 unfold full
 rw[decide_eq_true_iff,decide_eq_false_iff_not,show((180:Int):Rat)=180 from rfl]
 rcases pC t h0 h1 with⟨e,p⟩|⟨e,p⟩
 ·constructor
  ·rintro⟨x,y⟩;exact absurd (show 180<=bM (t+d) by grind) y
  ·intro x;omega
 ·constructor
  ·intro _;exact e
  ·intro _;exact⟨by grind,by grind⟩
def dq (n:Int):Int:=turn ((n:Int):Rat)
def comes (n:Int):Bool:=full ((n:Int):Rat) && !full (((n+1:Int)):Rat)
theorem mF (n:Int):(((n+1:Int)):Rat)=((n:Int):Rat)+1:=by rw[Rat.intCast_add,Rat.intCast_one]
theorem pR (n:Int):comes n=true↔dq (n+1)=dq n+1:=by
 have h:=yE ((n:Int):Rat) (d:=1) (by decide) (by decide)
 unfold comes dq
 rw[mF,<-h,Bool.and_eq_true,Bool.not_eq_true']
theorem nz (n:Int):dq (n+1)=dq n\/dq (n+1)=dq n+1:=by
 unfold dq
 rw[mF]
 rcases pC ((n:Int):Rat) (d:=1) (by decide) (by decide) with h|h
 ·exact .inl h.1
 ·exact .inr h.1
theorem yp (n:Int) (k:Nat):dq n<=dq (n+k):=by
 induction k with
 |zero=>rw[show n+((0:Nat):Int)=n by omega];exact Int.le_refl _
 |succ k ih=>
  rw[show n+((k+1:Nat):Int)=n+k+1 by omega]
  have:=nz (n+k)
  omega
theorem mC {a b:Int} (h:a<=b):dq a<=dq b:=by
 have:=yp a (b-a).toNat
 rwa[show a+(((b-a).toNat :Nat):Int)=b by omega] at this
theorem B7 {a f:Int} (h:a<=f) (g:dq a<dq f):∃L,a<=L/\L<f/\comes L=true/\∀m,L<m->m<f->¬comes m=true:=by
 have key:∀k:Nat,k<=(f-a).toNat ->dq (f-k)<dq f->∃L,f-k<=L/\L<f/\comes L=true/\∀m,L<m->m<f->¬comes m=true:=by
  intro k
  induction k with
  |zero=>intro _ x;rw[show f-((0:Nat):Int)=f by omega] at x;omega
  |succ k ih=>
   intro hk x
   by_cases y:dq (f-k)<dq f
   ·obtain⟨L,l1,l2,l3,l4⟩:=ih (by omega) y
    exact⟨L,by omega,l2,l3,l4⟩
   ·have z:=mC (a:=f-k) (b:=f) (by omega)
    refine⟨f-((k+1:Nat):Int),Int.le_refl _,by omega,?_,?_⟩
    ·rw[pR,show f-((k+1:Nat):Int)+1=f-k by omega]
     have:=nz (f-((k+1:Nat):Int))
     rw[show f-((k+1:Nat):Int)+1=f-k by omega] at this
     omega
    ·intro m m1 m2 c
     rw[pR] at c
     have p:=mC (a:=f-k) (b:=m) (by omega)
     have q:=mC (a:=m+1) (b:=f) (by omega)
     omega
 have:=key (f-a).toNat (Nat.le_refl _) (by rwa[show f-(((f-a).toNat :Nat):Int)=a by omega])
 rwa[show f-(((f-a).toNat :Nat):Int)=a by omega] at this
theorem Cy (f:Int):∃L,f-34<=L/\L<f/\comes L=true/\∀m,L<m->m<f->¬comes m=true:=by
 refine B7 (a:=f-34) (by omega) ?_
 have r:=(iy (((f-34:Int)):Rat) (d:=34) (by decide)).1
 have a:=jA (((f-34:Int)):Rat)
 have b:=jA ((f:Int):Rat)
 rw[show(((f-34:Int)):Rat)+34=((f:Int):Rat) by rw[Rat.intCast_sub,show((34:Int):Rat)=34 from rfl];grind] at r
 rw[eO] at*
 unfold dq
 have u:((turn (((f-34:Int)):Rat):Int):Rat)<((turn ((f:Int):Rat):Int):Rat):=by grind
 exact Rat.intCast_lt_intCast.1 u
theorem gf {x:Rat} {n:Int} (hn:0<n):prt (rmod x ((360:Int):Rat)) n=(x*(((n:Int):Rat)/((360:Int):Rat))).floor %n:=by
 have np:(0:Rat)<((n:Int):Rat):=Rat.intCast_pos.2 hn
 have e:(rmod x ((360:Int):Rat))*(((n:Int):Rat)/((360:Int):Rat))=x*(((n:Int):Rat)/((360:Int):Rat))+((n*(-(x/((360:Int):Rat)).floor):Int):Rat):=by
  rw[dP aN,Rat.intCast_mul,Rat.div_def ((n:Int):Rat),eO];grind
 have b:=dz (x:=rmod x ((360:Int):Rat)) hn (cn aN) (bV aN)
 unfold prt at b ⊢
 rw[e,Rat.floor_add_intCast] at b ⊢
 have h:=Int.emod_eq_of_lt (b:=n) b.1 b.2
 rw[<-h,Int.add_mul_emod_self_left]
def kU (c:Int) (t:Rat):Rat:=if c=0 then bT t else if c=1\/c=4 then phU t else if c=2 then bD t else bD t+bT t
def kN (c:Int):Int:=if c=0 then 12 else if c=1 then 30 else if c=4 then 60 else 27
def kI (c:Int) (t:Rat):Int:=if c=0 then prt (bp t) 12 else if c=1 then prt (bM t) 30 else if c=2 then prt (bK t) 27 else if c=3 then prt (rmod (bK t+bp t) ((360:Int):Rat)) 27 else prt (bM t) 60
def kS (c:Int) (t:Rat):Int:=(kU c t*(((kN c:Int):Rat)/((360:Int):Rat))).floor
def kQ (c:Int):Rat:=if c=0 then 1 else 1/4
def kM (c:Int):Int:=if c=0 then 34 else 6
theorem kinds {c:Int} (h0:0<=c) (h1:c<=4):c=0\/c=1\/c=2\/c=3\/c=4:=by omega
theorem j2 (c:Int):12<=kN c/\kN c<=60:=by unfold kN;split <;> (try split) <;> (try split) <;> omega
theorem dc {c:Int} (h0:0<=c) (h1:c<=4) (t:Rat):kI c t=kS c t%kN c:=by
 rcases kinds h0 h1 with rfl|rfl|rfl|rfl|rfl
 ·show prt (bp t) 12=(bT t*(((12:Int):Rat)/((360:Int):Rat))).floor %12
  rw[rO,gf (by decide)]
 ·show prt (bM t) 30=(phU t*(((30:Int):Rat)/((360:Int):Rat))).floor %30
  rw[kO,gf (by decide)]
 ·show prt (bK t) 27=(bD t*(((27:Int):Rat)/((360:Int):Rat))).floor %27
  rw[ou,gf (by decide)]
 ·show prt (rmod (bK t+bp t) ((360:Int):Rat)) 27=((bD t+bT t)*(((27:Int):Rat)/((360:Int):Rat))).floor %27
  rw[A2,gf (by decide)]
 ·show prt (bM t) 60=(phU t*(((60:Int):Rat)/((360:Int):Rat))).floor %60
  rw[kO,gf (by decide)]
theorem Ff {c:Int} (h0:0<=c) (h1:c<=4) (t:Rat):0<=kI c t/\kI c t<kN c:=by
 rw[dc h0 h1]
 have:=j2 c
 exact⟨Int.emod_nonneg _ (by omega),Int.emod_lt_of_pos _ (by omega)⟩
theorem po {c:Int} (h0:0<=c) (h1:c<=4) (t:Rat) {d:Rat} (hd:0<=d):
 0<=(kU c (t+d)-kU c t)*(((kN c:Int):Rat)/((360:Int):Rat))/\(d<=kQ c->(kU c (t+d)-kU c t)*(((kN c:Int):Rat)/((360:Int):Rat))<1)/\(((kM c:Int):Rat)*kQ c<=d->1<=(kU c (t+d)-kU c t)*(((kN c:Int):Rat)/((360:Int):Rat))):=by
 have s:=mQ t hd
 have m:=k9 t hd
 have p:=iy t hd
 rcases kinds h0 h1 with rfl|rfl|rfl|rfl|rfl
 ·show 0<=(bT (t+d)-bT t)*(((12:Int):Rat)/((360:Int):Rat))/\(d<=1->(bT (t+d)-bT t)*(((12:Int):Rat)/((360:Int):Rat))<1)/\(((34:Int):Rat)*1<=d->1<=(bT (t+d)-bT t)*(((12:Int):Rat)/((360:Int):Rat)))
  rw[show((12:Int):Rat)/((360:Int):Rat)=12/360 by decide+kernel,show((34:Int):Rat)=34 from rfl]
  refine⟨by grind,fun _=>by grind,fun _=>by grind⟩
 ·show 0<=(phU (t+d)-phU t)*(((30:Int):Rat)/((360:Int):Rat))/\(d<=1/4->(phU (t+d)-phU t)*(((30:Int):Rat)/((360:Int):Rat))<1)/\(((6:Int):Rat)*(1/4)<=d->1<=(phU (t+d)-phU t)*(((30:Int):Rat)/((360:Int):Rat)))
  rw[show((30:Int):Rat)/((360:Int):Rat)=30/360 by decide+kernel,show((6:Int):Rat)=6 from rfl]
  refine⟨by grind,fun _=>by grind,fun _=>by grind⟩
 ·show 0<=(bD (t+d)-bD t)*(((27:Int):Rat)/((360:Int):Rat))/\(d<=1/4->(bD (t+d)-bD t)*(((27:Int):Rat)/((360:Int):Rat))<1)/\(((6:Int):Rat)*(1/4)<=d->1<=(bD (t+d)-bD t)*(((27:Int):Rat)/((360:Int):Rat)))
  rw[show((27:Int):Rat)/((360:Int):Rat)=27/360 by decide+kernel,show((6:Int):Rat)=6 from rfl]
  refine⟨by grind,fun _=>by grind,fun _=>by grind⟩
 ·show 0<=(bD (t+d)+bT (t+d)-(bD t+bT t))*(((27:Int):Rat)/((360:Int):Rat))/\(d<=1/4->(bD (t+d)+bT (t+d)-(bD t+bT t))*(((27:Int):Rat)/((360:Int):Rat))<1)/\(((6:Int):Rat)*(1/4)<=d->1<=(bD (t+d)+bT (t+d)-(bD t+bT t))*(((27:Int):Rat)/((360:Int):Rat)))
  rw[show((27:Int):Rat)/((360:Int):Rat)=27/360 by decide+kernel,show((6:Int):Rat)=6 from rfl]
  refine⟨by grind,fun _=>by grind,fun _=>by grind⟩
 ·show 0<=(phU (t+d)-phU t)*(((60:Int):Rat)/((360:Int):Rat))/\(d<=1/4->(phU (t+d)-phU t)*(((60:Int):Rat)/((360:Int):Rat))<1)/\(((6:Int):Rat)*(1/4)<=d->1<=(phU (t+d)-phU t)*(((60:Int):Rat)/((360:Int):Rat)))
  rw[show((60:Int):Rat)/((360:Int):Rat)=60/360 by decide+kernel,show((6:Int):Rat)=6 from rfl]
  refine⟨by grind,fun _=>by grind,fun _=>by grind⟩
theorem ED {x y:Rat} (h0:0<=y-x) (h1:y-x<1):y.floor=x.floor\/y.floor=x.floor+1:=by
 have a:=dF x
 have b:=ec x
 have a':=dF y
 have b':=ec y
 have u:((x.floor:Int):Rat)<((y.floor+1:Int):Rat):=by rw[Rat.intCast_add,Rat.intCast_one];grind
 have l:((y.floor:Int):Rat)<((x.floor+2:Int):Rat):=by rw[show((x.floor+2:Int):Rat)=((x.floor:Int):Rat)+2 from Rat.intCast_add _ _];grind
 have:=Rat.intCast_lt_intCast.1 u
 have:=Rat.intCast_lt_intCast.1 l
 omega
theorem tQ {c:Int} (h0:0<=c) (h1:c<=4) (t:Rat) {d:Rat} (hd:0<=d) (hq:d<=kQ c):kS c (t+d)=kS c t\/kS c (t+d)=kS c t+1:=by
 have r:=po h0 h1 t hd
 exact ED (by have:=r.1;grind) (by have:=r.2.1 hq;grind)
theorem DX {c:Int} (h0:0<=c) (h1:c<=4) (t:Rat):kS c t<kS c (t+((kM c:Int):Rat)*kQ c):=by
 have hd:0<=((kM c:Int):Rat)*kQ c:=by rcases kinds h0 h1 with rfl|rfl|rfl|rfl|rfl <;> decide+kernel
 have r:=(po h0 h1 t hd).2.2 Rat.le_refl
 have a:=dF (kU c t*(((kN c:Int):Rat)/((360:Int):Rat)))
 have b:=ec (kU c (t+((kM c:Int):Rat)*kQ c)*(((kN c:Int):Rat)/((360:Int):Rat)))
 unfold kS
 generalize (kU c t*(((kN c:Int):Rat)/((360:Int):Rat))).floor =j at*
 have u:((j:Int):Rat)<(((kU c (t+((kM c:Int):Rat)*kQ c)*(((kN c:Int):Rat)/((360:Int):Rat))).floor :Int):Rat):=by
  refine Rat.not_le.1 fun q=>?_
  have:(kU c (t+((kM c:Int):Rat)*kQ c)*(((kN c:Int):Rat)/((360:Int):Rat))).floor <j+1:=Rat.intCast_lt_intCast.1 (by rw[Rat.intCast_add,Rat.intCast_one];grind)
  have k2:j+1<=(kU c (t+((kM c:Int):Rat)*kQ c)*(((kN c:Int):Rat)/((360:Int):Rat))).floor :=Rat.le_floor_iff.2 (by rw[Rat.intCast_add,Rat.intCast_one];grind)
  omega
 exact Rat.intCast_lt_intCast.1 u
end Go.Proofs.YtgdpkknapcgcbaaGreatDoor
