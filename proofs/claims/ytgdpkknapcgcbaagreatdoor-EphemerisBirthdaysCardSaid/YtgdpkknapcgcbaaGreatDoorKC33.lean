import Derived.Test.YtgdpkknapcgcbaaGreatDoorKC32
namespace Go.Proofs.YtgdpkknapcgcbaaGreatDoor
open Go.RowKit
set_option maxRecDepth 100000
set_option linter.unusedVariables false
set_option maxHeartbeats 8000000
theorem JE (t:Rat) {d:Rat} (h0:0<=d) (h1:d<=30):(dN (t+d)-dN t).abs <=2/100:=by
 have e:gC (t+d)=gC t+d*(((600:Int):Rat)/((1577917828:Int):Rat)):=by unfold gC;grind
 have e':gC t=gC (t+d)+ -(d*(((600:Int):Rat)/((1577917828:Int):Rat))):=by rw[e];grind
 have k0:(0:Rat)<=((600:Int):Rat)/((1577917828:Int):Rat):=by decide+kernel
 have k1:((600:Int):Rat)/((1577917828:Int):Rat)<=1/200000:=by decide+kernel
 have a:=sM (gC t) (d*(((600:Int):Rat)/((1577917828:Int):Rat)))
 have b:=sM (gC (t+d)) (-(d*(((600:Int):Rat)/((1577917828:Int):Rat))))
 rw[<-e] at a
 rw[<-e'] at b
 generalize ((600:Int):Rat)/((1577917828:Int):Rat)=c at*
 have n:=Rat.mul_nonneg h0 k0
 have u:=Rat.mul_le_mul_of_nonneg_left k1 h0
 rw[Rat.abs_neg,Rat.abs_of_nonneg n] at b
 rw[Rat.abs_of_nonneg n] at a
 unfold dN Ao
 rw[mr.1,mr.2,show((108:Int):Rat)=108 from rfl,show((27:Int):Rat)=27 from rfl]
 exact fx (by grind) (by grind)
theorem Jl (t:Rat) {d:Rat} (h0:0<=d) (h1:d<=30):(sof (bZ (t+d))-sof (bZ t)).abs <=54/100:=by
 have s:=mB t h0
 have pr:=cv (JE t h0 h1)
 unfold bZ
 rw[pm,pm,qP,qP,gW bU,gW bU]
 rw[show cz (t+d)+((360:Int):Rat)*(((-(cz (t+d)/((360:Int):Rat)).floor :Int)):Rat)-dN (t+d)=(cz (t+d)-dN (t+d))+((360:Int):Rat)*(((-(cz (t+d)/((360:Int):Rat)).floor :Int)):Rat) by grind,kT]
 rw[show cz t+((360:Int):Rat)*(((-(cz t/((360:Int):Rat)).floor :Int)):Rat)-dN t=(cz t-dN t)+((360:Int):Rat)*(((-(cz t/((360:Int):Rat)).floor :Int)):Rat) by grind,kT]
 have l:=nR (cz (t+d)-dN (t+d)) (cz t-dN t)
 rw[show((60:Int):Rat)/((3438:Int):Rat)=60/3438 by decide+kernel] at l
 have k:(cz (t+d)-dN (t+d)-(cz t-dN t)).abs <=3076/100:=fx (by grind) (by grind)
 grind
theorem E4 {x y:Rat} (x0: -1<=x) (h:x<=y) (y1:y<=1):bF x<=bF y:=by
 refine Rat.not_lt.1 fun q=>?_
 have bx:=nP x0 (by grind)
 have b:=nP (by grind) y1
 have s:=oQ b.1 (Rat.le_of_lt q) bx.2
 rw[kL (by grind) y1,kL x0 (by grind)] at s
 rw[show x=y by grind] at q
 grind
def jE (h:Rat):Rat:=h/cA h
theorem Ew (h:Rat):cA (-h)=cA h:=by unfold cA;rw[M8,lS]
theorem tD (h:Rat):jE (-h)= -jE h:=by unfold jE;rw[Ew,Rat.div_def,Rat.div_def];grind
theorem F6 {x y:Rat} (x0:0<=x) (h:x<=y) (y1:y<=obl):cA y<=cA x:=by
 have o:obl<=1:=by decide+kernel
 have u:=E4 (x:=x) (y:=y) (by grind) h (by grind)
 have z:=E4 (x:=0) (y:=x) (by decide) x0 (by grind)
 rw[Da] at z
 have b:=nP (y:=y) (by grind) (by grind)
 rw[r90] at b
 unfold cA
 rw[<-lS (bF y),<-lS (bF x)]
 exact oQ (by rw[r90,show((-90:Int):Rat)= -90 from rfl];grind) (by grind) (by grind)
theorem pP {x y:Rat} (x0:0<=x) (h:x<=y) (y1:y<=obl):jE x<=jE y:=by
 have o:0<=obl:=by decide+kernel
 have d:=F6 x0 h y1
 have cx:=nX (h:=x) (by grind) (by grind)
 have cy:=nX (h:=y) (by grind) y1
 unfold jE
 have py:0<cA y:=by grind
 have px:0<cA x:=by grind
 refine Rat.le_trans (b:=y/cA x) ?_ ?_
 ·rw[Rat.div_def,Rat.div_def]
  exact Rat.mul_le_mul_of_nonneg_right h (Rat.le_of_lt (Rat.inv_pos.2 px))
 ·refine jL py ?_
  rw[show y/cA x*cA y=y*cA y/cA x by rw[Rat.div_def,Rat.div_def];grind]
  refine jJ px ?_
  exact Rat.mul_le_mul_of_nonneg_left d (by grind)
theorem rN {x y:Rat} (x0: -obl<=x) (h:x<=y) (y1:y<=obl):jE x<=jE y:=by
 have z:jE 0=0:=by unfold jE;rw[Rat.div_def,Rat.zero_mul]
 have o:0<=obl:=by decide+kernel
 rcases Rat.le_total (a:=0) (b:=x) with px|px
 ·exact pP px h y1
 have n:=pP (x:=0) (y:= -x) (by decide) (by grind) (by grind)
 rw[tD,z] at n
 rcases Rat.le_total (a:=0) (b:=y) with py|py
 ·have:=pP (x:=0) (y:=y) (by decide) py y1
  rw[z] at this
  grind
 ·have m:=pP (x:= -y) (y:= -x) (by grind) (by grind) (by grind)
  rw[tD,tD] at m
  grind
def Jq (j:Int):Rat:=jE (obl*(((j:Int):Rat)/((50:Int):Rat)))
theorem JH:∀j:Nat,j<100->Jq (min 50 ((j:Int)-50+28))-Jq ((j:Int)-50)<=264/1000:=by decide+kernel
theorem lL {s:Rat} (h0: -1<=s) (h1:s<=1): -obl<=obl*s/\obl*s<=obl:=by
 rw[lJ];constructor <;> grind
theorem Bv {s u:Rat} (s0: -1<=s) (h:s<=u) (d:u<=s+54/100) (u1:u<=1):jE (obl*u)-jE (obl*s)<=264/1000:=by
 have f:=fe (s*50)
 have g:=fA (s*50)
 have lo: -50<=(s*50).floor :=Rat.le_floor_iff.2 (by rw[show((-50:Int):Rat)= -50 from rfl];grind)
 have hi:(s*50).floor <=50:=by
  have:((((s*50).floor :Int)):Rat)<=((50:Int):Rat):=by rw[show((50:Int):Rat)=50 from rfl];grind
  exact Rat.intCast_le_intCast.1 this
 generalize (s*50).floor =j at*
 have o:0<=obl:=by decide+kernel
 have J:∀k:Int,((k:Int):Rat)/((50:Int):Rat)=((k:Int):Rat)*(1/50):=fun k=>by rw[Rat.div_def,show((50:Int):Rat)⁻¹ =1/50 by decide+kernel]
 by_cases e:j=50
 ·subst e
  rw[show((50:Int):Rat)=50 from rfl] at f
  rw[show s=u by grind]
  grind
 have G:=JH (j+50).toNat (by omega)
 rw[show(((j+50).toNat :Nat):Int)-50=j by omega] at G
 have bj:=lL (s:=((j:Int):Rat)/((50:Int):Rat)) (by rw[J];have:=Rat.intCast_le_intCast.2 lo;rw[show((-50:Int):Rat)= -50 from rfl] at this;grind) (by rw[J];grind)
 have low:=rN (x:=obl*(((j:Int):Rat)/((50:Int):Rat))) (y:=obl*s) bj.1 (Rat.mul_le_mul_of_nonneg_left (by rw[J];grind) o) (lL s0 (by grind)).2
 have m1:((((min 50 (j+28):Int)):Rat))<=((50:Int):Rat):=Rat.intCast_le_intCast.2 (by omega)
 have mu:u<=((min 50 (j+28):Int):Rat)/((50:Int):Rat):=by
  rw[J]
  rcases Int.le_total 50 (j+28) with q|q
  ·rw[Int.min_eq_left q,show((50:Int):Rat)=50 from rfl];grind
  ·rw[Int.min_eq_right q,Rat.intCast_add,show((28:Int):Rat)=28 from rfl];grind
 have m2:((min 50 (j+28):Int):Rat)/((50:Int):Rat)<=1:=by rw[J];rw[show((50:Int):Rat)=50 from rfl] at m1;grind
 have up:=rN (x:=obl*u) (y:=obl*(((min 50 (j+28):Int):Rat)/((50:Int):Rat))) (lL (by grind) u1).1 (Rat.mul_le_mul_of_nonneg_left mu o) (lL (by grind) m2).2
 unfold Jq at G
 grind
theorem Hw {s u:Rat} (s0: -1<=s) (s1:s<=1) (u0: -1<=u) (u1:u<=1) (d:(u-s).abs <=54/100):(jE (obl*u)-jE (obl*s)).abs <=264/1000:=by
 have dd:=cv d
 have o:0<=obl:=by decide+kernel
 rcases Rat.le_total (a:=s) (b:=u) with h|h
 ·have a:=Bv s0 h (by grind) u1
  have b:=rN (lL s0 s1).1 (Rat.mul_le_mul_of_nonneg_left h o) (lL u0 u1).2
  exact fx (by grind) (by grind)
 ·have a:=Bv u0 h (by grind) s1
  have b:=rN (lL u0 u1).1 (Rat.mul_le_mul_of_nonneg_left h o) (lL s0 s1).2
  exact fx (by grind) (by grind)
theorem H7 (t:Rat) {d lat:Rat} (h0: -60<=lat) (h1:lat<=60) (d0:0<=d) (d1:d<=30):(fl (t+d) lat-fl t lat).abs <=451/10:=by
 have q:=oZ t h0 h1
 have q':=oZ (t+d) h0 h1
 have ta:=An h0 h1
 have b:=fN (bZ t)
 have b':=fN (bZ (t+d))
 have m:=Hw b.1 b.2 b'.1 b'.2 (Jl t d0 d1)
 have e:(quo (t+d) lat-quo t lat).abs <=2978/1719*(264/1000):=by
  rw[rp,rp,show sof lat/sof (lat+((90:Int):Rat))*(hV (t+d)/cA (hV (t+d)))-sof lat/sof (lat+((90:Int):Rat))*(hV t/cA (hV t))=sof lat/sof (lat+((90:Int):Rat))*(hV (t+d)/cA (hV (t+d))-hV t/cA (hV t)) by grind,lC]
  have ka:(sof lat/sof (lat+((90:Int):Rat))).abs <=2978/1719:=fx ta.1 ta.2
  generalize (sof lat/sof (lat+((90:Int):Rat))).abs =x at*
  have kb:(0:Rat)<=(hV (t+d)/cA (hV (t+d))-hV t/cA (hV t)).abs :=Rat.abs_nonneg
  have kc:(hV (t+d)/cA (hV (t+d))-hV t/cA (hV t)).abs <=264/1000:=m
  generalize (hV (t+d)/cA (hV (t+d))-hV t/cA (hV t)).abs =y at*
  have m:=Rat.mul_nonneg (a:=2978/1719-x) (b:=y) (by grind) kb
  grind
 have a:=ui (y:= -(quo t lat)) (z:= -(quo (t+d) lat)) (by grind) (by grind) (by grind) (by grind)
 rw[show -(quo (t+d) lat)- -(quo t lat)= -(quo (t+d) lat-quo t lat) by grind,show(-(quo (t+d) lat-quo t lat)).abs =(quo (t+d) lat-quo t lat).abs by unfold Rat.abs;split <;> split <;> grind] at a
 show(bF (-(quo (t+d) lat))-bF (-(quo t lat))).abs <=451/10
 grind
theorem JP (t:Rat) {d lat:Rat} (lon:Rat) (h0: -60<=lat) (h1:lat<=60) (d0:0<=d) (d1:d<=30):d-13795/100000<=cr (t+d) lat lon 1 1-cr t lat lon 1 1/\cr (t+d) lat lon 1 1-cr t lat lon 1 1<=d+13795/100000:=by
 have e:=ot t
 have e':=ot (t+d)
 have g:=cv (H7 t h0 h1 d0 d1)
 have s:=iC t
 have s':=iC (t+d)
 have k:=pe
 unfold cr
 rw[show((1:Int):Rat)/((4:Int):Rat)=1/4 by decide+kernel,Rat.intCast_one] at*
 generalize fl (t+d) lat=d2 at*
 generalize fl t lat=d1 at*
 generalize fg (t+d)*gU (t+d)=s2 at*
 generalize fg t*gU t=s1 at*
 generalize gX (t+d)=e2 at*
 generalize gX t=e1 at*
 have m:=fP (a:=1/4*(111/100-87/100)+451/10) (b:=27703/10000000) (x:=(s2*(1/4)+1*d2)-(s1*(1/4)+1*d1)) (y:=kap) (by grind) (by grind) (by grind) (by grind) (by grind) k.2
 constructor <;> grind
theorem NV {lat:Rat} (lon:Rat) (h0: -60<=lat) (h1:lat<=60) (n:Int) {d:Int} (d0:0<=d) (d1:d<=30):((d:Int):Rat)-138/1000<=riV lat lon (n+d)-riV lat lon n/\riV lat lon (n+d)-riV lat lon n<=((d:Int):Rat)+138/1000:=by
 have c0:=Rat.intCast_le_intCast.2 d0
 have c1:=Rat.intCast_le_intCast.2 d1
 have r:=JP ((n:Int):Rat) lon h0 h1 (d:=((d:Int):Rat)) c0 c1
 unfold riV
 rw[Rat.intCast_add]
 have g1:=iV (cr ((n:Int):Rat) lat lon 1 1)
 have g2:=iV (cr (((n:Int):Rat)+((d:Int):Rat)) lat lon 1 1)
 constructor <;> grind
theorem MJ (t:Rat) {d lat:Rat} (lon:Rat) (h0: -60<=lat) (h1:lat<=60):d-308/1000<=cr (t+d) lat lon 1 1-cr t lat lon 1 1/\cr (t+d) lat lon 1 1-cr t lat lon 1 1<=d+308/1000:=by
 refine⟨qX t d lon (.inl ⟨rfl,rfl⟩) h0 h1,?_⟩
 have b:=qX (t+d) (-d) (qd:=1) (sg:=1) lon (.inl ⟨rfl,rfl⟩) h0 h1
 rw[show t+d+ -d=t by grind] at b
 grind
theorem GG {lat:Rat} (lon:Rat) (h0: -60<=lat) (h1:lat<=60) (n d:Int):((d:Int):Rat)-309/1000<=riV lat lon (n+d)-riV lat lon n/\riV lat lon (n+d)-riV lat lon n<=((d:Int):Rat)+309/1000:=by
 have r:=MJ ((n:Int):Rat) (d:=((d:Int):Rat)) lon h0 h1
 unfold riV
 rw[Rat.intCast_add]
 have g1:=iV (cr ((n:Int):Rat) lat lon 1 1)
 have g2:=iV (cr (((n:Int):Rat)+((d:Int):Rat)) lat lon 1 1)
 constructor <;> grind
theorem P6 (t:Rat):360<phU (t+2985/100)-phU t/\phU (t+292/10)-phU t<360:=by
 have k:((360:Int):Rat)/psy=((360:Int):Rat)/pmo-((360:Int):Rat)/pyr:=by decide+kernel
 have E:∀d:Rat,phU (t+d)-phU t=((360:Int):Rat)/psy*d-(ii (t+d)-ii t)+(dt (t+d)-dt t):=fun d=>by
  unfold phU jm cz;rw[k,dJ,dJ,Rat.div_def,Rat.div_def,Rat.div_def,Rat.div_def];grind
 refine⟨?_,?_⟩
 ·have a:=cv (qi t (2985/100))
  have b:=cv (pt t (2985/100))
  have ka:ssz*(225/224)*(((360:Int):Rat)*((2985/100)/pay)).abs <1155/1000:=by decide+kernel
  have kb:msz*(225/224)*(((360:Int):Rat)*((2985/100)/pam-1)).abs <269/100:=by decide+kernel
  have k2:12190/1000<((360:Int):Rat)/psy:=by decide+kernel
  rw[E]
  generalize ((360:Int):Rat)/psy=y at*
  grind
 ·have a:=cv (qi t (292/10))
  have b:=cv (pt t (292/10))
  have ka:ssz*(225/224)*(((360:Int):Rat)*((292/10)/pay)).abs <115/100:=by decide+kernel
  have kb:msz*(225/224)*(((360:Int):Rat)*((292/10)/pam-1)).abs <2:=by decide+kernel
  have k2:((360:Int):Rat)/psy<12192/1000:=by decide+kernel
  rw[E]
  generalize ((360:Int):Rat)/psy=y at*
  grind
theorem Ad {t u:Rat} (h:t<=u):(360<=phU u-phU t->292/10<u-t)/\(phU u-phU t<=360->u-t<2985/100):=by
 have b:=P6 t
 refine⟨fun g=>Rat.not_le.1 fun q=>?_,fun g=>Rat.not_le.1 fun q=>?_⟩
 ·have:=(lN (t:=u) (u:=t+292/10) (by grind)).1
  grind
 ·have:=(lN (t:=t+2985/100) (u:=u) (by grind)).1
  grind
theorem lW {t u:Rat} {k:Rat}:(360*k<=phU u-phU t->29530588/1000000*k-12/10<u-t\/k<0\/20<k)/\(phU u-phU t<=360*k->u-t<29530588/1000000*k+12/10\/k<0\/20<k):=by
 have p:=vD t (u-t)
 rw[show t+(u-t)=u by grind] at p
 have k1:360/29530588*1000000<((360:Int):Rat)/psy:=by decide+kernel
 have k2:((360:Int):Rat)/psy<360/29530587*1000000:=by decide+kernel
 generalize ((360:Int):Rat)/psy=y at*
 have y0:0<y:=by grind
 refine⟨fun g=>?_,fun g=>?_⟩
 ·by_cases c:k<0\/20<k
  ·exact .inr c
  refine .inl (Rat.not_le.1 fun q=>?_)
  have a:=Rat.mul_le_mul_of_nonneg_left q (Rat.le_of_lt y0)
  have z:=Rat.mul_nonneg (a:=360/29530587*1000000-y) (b:=k) (by grind) (by grind)
  grind
 ·by_cases c:k<0\/20<k
  ·exact .inr c
  refine .inl (Rat.not_le.1 fun q=>?_)
  have a:=Rat.mul_le_mul_of_nonneg_left q (Rat.le_of_lt y0)
  have z:=Rat.mul_nonneg (a:=y-360/29530588*1000000) (b:=k) (by grind) (by grind)
  grind
section
theorem J7 {a b c d:Int} (h:bN a b c d) {m n:Int} (l:m<=n):amX m a b c d<=amX n a b c d:=Qs _ h.la.1 h.la.2 l
theorem Bu {a b c d:Int} (h:bN a b c d) (n:Int) (k:Nat):amX n a b c d+((k:Nat):Int)<=amX (n+2*((k:Nat):Int)) a b c d:=by
 induction k with
 |zero=>rw[show n+2*((0:Nat):Int)=n by omega];omega
 |succ k ih=>
  have t:=NZ h (n+2*((k:Nat):Int)+1)
  rw[show n+2*((k:Nat):Int)+1-1=n+2*((k:Nat):Int) by omega,show n+2*((k:Nat):Int)+1+1=n+2*(((k+1:Nat)):Int) by omega] at t
  omega
theorem Cf {a b c d X:Int} (h:bN a b c d):∀(k:Nat) (n:Int),amX n a b c d<X->X<=amX (n+((k:Nat):Int)) a b c d->∃m,X<=amX m a b c d/\amX (m-1) a b c d<X
 |0,n,lo,hi=>by rw[show n+((0:Nat):Int)=n by omega] at hi;omega
 |k+1,n,lo,hi=>by
  by_cases q:amX (n+1) a b c d<X
  ·exact Cf h k (n+1) q (by rw[show n+1+((k:Nat):Int)=n+(((k+1:Nat)):Int) by omega];exact hi)
  ·exact⟨n+1,by omega,by rw[show n+1-1=n by omega];exact lo⟩
theorem KB {a b c d:Int} (h:bN a b c d) (X:Int):∃m,X<=amX m a b c d/\amX (m-1) a b c d<X:=by
 have lo:=Bu h (0-2*((((X-amX 0 a b c d).natAbs +1:Nat)):Int)) ((X-amX 0 a b c d).natAbs +1)
 have hi:=Bu h 0 ((X-amX 0 a b c d).natAbs +1)
 rw[show(0-2*((((X-amX 0 a b c d).natAbs +1:Nat)):Int))+2*((((X-amX 0 a b c d).natAbs +1:Nat)):Int)=0 by omega] at lo
 refine Cf h (4*((X-amX 0 a b c d).natAbs +1)) (0-2*((((X-amX 0 a b c d).natAbs +1:Nat)):Int)) (by omega) ?_
 rw[show 0-2*((((X-amX 0 a b c d).natAbs +1:Nat)):Int)+(((4*((X-amX 0 a b c d).natAbs +1):Nat)):Int)=0+2*((((X-amX 0 a b c d).natAbs +1:Nat)):Int) by omega]
 omega
open Classical in
noncomputable def feV (a b c d X:Int):Int:=if h:bN a b c d then Classical.choose (KB h X) else 0
theorem sk {a b c d:Int} (h:bN a b c d) (X:Int):X<=amX (feV a b c d X) a b c d/\amX (feV a b c d X-1) a b c d<X:=by
 unfold feV
 rw[dif_pos h]
 exact Classical.choose_spec (KB h X)
theorem yj {a b c d:Int} (h:bN a b c d) (X n:Int):X<=amX n a b c d↔feV a b c d X<=n:=by
 have s:=sk h X
 refine⟨fun g=>Int.not_lt.1 fun q=>?_,fun g=>?_⟩
 ·have:=J7 h (show n<=feV a b c d X-1 by omega)
  omega
 ·have:=J7 h g
  omega
theorem Bx {a b c d:Int} (h:bN a b c d) {X Y:Int} (l:X<=Y):feV a b c d X<=feV a b c d Y:=(yj h X _).1 (by have:=(sk h Y).1;omega)
theorem KF (t:Rat) (X:Int):X<=tiV t↔12*((X:Int):Rat)<=phU t:=by
 have b:=xM t
 refine⟨fun g=>?_,Ds⟩
 have:=Rat.intCast_le_intCast.2 g
 grind
theorem Qf (t:Rat) (X:Int):tiV t<X↔phU t<12*((X:Int):Rat):=by
 rw[<-Int.not_le,KF,Rat.not_le]
theorem xR {a b c d:Int} (h:bN a b c d) (X:Int):12*((X:Int):Rat)<=phU (riV (((a:Int):Rat)/((b:Int):Rat)) (((c:Int):Rat)/((d:Int):Rat)) (feV a b c d X))/\phU (riV (((a:Int):Rat)/((b:Int):Rat)) (((c:Int):Rat)/((d:Int):Rat)) (feV a b c d X-1))<12*((X:Int):Rat):=
 ⟨(KF _ _).1 (sk h X).1,(Qf _ _).1 (sk h X).2⟩
theorem Qo {lat:Rat} (lon:Rat) (h0: -60<=lat) (h1:lat<=60) {m n:Int} (l:m<=n):riV lat lon m<=riV lat lon n:=by
 rcases Int.lt_or_le m n with q|q
 ·have r:=GG lon h0 h1 m (n-m)
  rw[show m+(n-m)=n by omega] at r
  have:=Rat.intCast_le_intCast.2 (show 1<=n-m by omega)
  rw[Rat.intCast_one] at this
  grind
 ·rw[show m=n by omega];exact Rat.le_refl
theorem Hr {a b c d:Int} (h:bN a b c d) (X:Int):29<=feV a b c d (X+30)-feV a b c d X/\feV a b c d (X+30)-feV a b c d X<=30:=by
 have p:=xR h X
 have q:=xR h (X+30)
 rw[Rat.intCast_add,show((30:Int):Rat)=30 from rfl] at q
 have l0:=h.la.1
 have l1:=h.la.2
 generalize feV a b c d X=n at*
 generalize feV a b c d (X+30)=k at*
 have up:=fun{m n:Int} (l:m<=n)=>Qo (((c:Int):Rat)/((d:Int):Rat)) l0 l1 l
 have far:=fun(n:Int) {e:Int} (e0:0<=e) (e1:e<=30)=>NV (((c:Int):Rat)/((d:Int):Rat)) l0 l1 n e0 e1
 refine⟨Int.not_lt.1 fun s=>?_,Int.not_lt.1 fun s=>?_⟩
 ·have u1:=up (show k<=n-1+29 by omega)
  have f:=far (n-1) (e:=29) (by decide) (by decide)
  rw[show((29:Int):Rat)=29 from rfl] at f
  rcases Rat.le_total (a:=riV (((a:Int):Rat)/((b:Int):Rat)) (((c:Int):Rat)/((d:Int):Rat)) (n-1)) (b:=riV (((a:Int):Rat)/((b:Int):Rat)) (((c:Int):Rat)/((d:Int):Rat)) k) with o|o
  ·have:=(Ad o).1 (by grind)
   grind
  ·have:=(lN o).1
   grind
 ·have u1:=up (show n+30<=k-1 by omega)
  have f:=far n (e:=30) (by decide) (by decide)
  rw[show((30:Int):Rat)=30 from rfl] at f
  have:=(Ad (t:=riV (((a:Int):Rat)/((b:Int):Rat)) (((c:Int):Rat)/((d:Int):Rat)) n) (u:=riV (((a:Int):Rat)/((b:Int):Rat)) (((c:Int):Rat)/((d:Int):Rat)) (k-1)) (by grind)).2 (by grind)
  grind
theorem Ld {a b c d:Int} (h:bN a b c d) (X:Int):(352<=feV a b c d (X+360)-feV a b c d X/\feV a b c d (X+360)-feV a b c d X<=357)/\381<=feV a b c d (X+390)-feV a b c d X/\feV a b c d (X+390)-feV a b c d X<=387:=by
 have l0:=h.la.1
 have l1:=h.la.2
 have p:=xR h X
 have any:=fun(n e:Int)=>GG (((c:Int):Rat)/((d:Int):Rat)) l0 l1 n e
 have key:∀(k:Int) (Y:Int),Y=X+30*k->0<=k->k<=20->29530588/1000000*((k:Int):Rat)-251/100<(((feV a b c d Y-feV a b c d X:Int)):Rat)/\(((feV a b c d Y-feV a b c d X:Int)):Rat)<29530588/1000000*((k:Int):Rat)+251/100:=by
  intro k Y e k0 k1
  have q:=xR h Y
  have c0:=Rat.intCast_le_intCast.2 k0
  have c1:=Rat.intCast_le_intCast.2 k1
  rw[Rat.intCast_zero] at c0
  rw[show((20:Int):Rat)=20 from rfl] at c1
  rw[e,Rat.intCast_add,Rat.intCast_mul,show((30:Int):Rat)=30 from rfl,<-e] at q
  generalize feV a b c d X=n at*
  generalize feV a b c d Y=m at*
  have a1:=any (n-1) (m-(n-1))
  have a2:=any n (m-1-n)
  rw[show n-1+(m-(n-1))=m by omega,Rat.intCast_sub,Rat.intCast_sub,Rat.intCast_one] at a1
  rw[show n+(m-1-n)=m-1 by omega,Rat.intCast_sub,Rat.intCast_sub,Rat.intCast_one] at a2
  rw[Rat.intCast_sub]
  constructor
  ·rcases(lW (t:=riV (((a:Int):Rat)/((b:Int):Rat)) (((c:Int):Rat)/((d:Int):Rat)) (n-1)) (u:=riV (((a:Int):Rat)/((b:Int):Rat)) (((c:Int):Rat)/((d:Int):Rat)) m) (k:=((k:Int):Rat))).1 (by grind) with z|z|z <;> grind
  ·rcases(lW (t:=riV (((a:Int):Rat)/((b:Int):Rat)) (((c:Int):Rat)/((d:Int):Rat)) n) (u:=riV (((a:Int):Rat)/((b:Int):Rat)) (((c:Int):Rat)/((d:Int):Rat)) (m-1)) (k:=((k:Int):Rat))).2 (by grind) with z|z|z <;> grind
 have k12:=key 12 (X+360) (by omega) (by decide) (by decide)
 have k13:=key 13 (X+390) (by omega) (by decide) (by decide)
 rw[show((12:Int):Rat)=12 from rfl] at k12
 rw[show((13:Int):Rat)=13 from rfl] at k13
 have lo:∀ {x y:Int},((x:Int):Rat)-1<((y:Int):Rat)->x<=y:=fun{x y} g=>by
  have:(((x-1:Int)):Rat)<((y:Int):Rat):=by rw[Rat.intCast_sub,Rat.intCast_one];exact g
  have:=Rat.intCast_lt_intCast.1 this
  omega
 refine⟨⟨lo ?_,lo ?_⟩,lo ?_,lo ?_⟩
 ·rw[show((352:Int):Rat)=352 from rfl];grind
 ·rw[show((357:Int):Rat)=357 from rfl];grind
 ·rw[show((381:Int):Rat)=381 from rfl];grind
 ·rw[show((387:Int):Rat)=387 from rfl];grind
noncomputable def beV (a b c d L:Int):Int:=feV a b c d (30*aP (L+1))
theorem sf (n a b c d:Int):amX n a b c d/30=aP (amL n a b c d+1):=by
 exact(Ni _).symm.trans (qR _)
theorem ri {a b c d:Int} (h:bN a b c d) {L:Int} (hc:aN L=true) (n:Int):L<=amL n a b c d↔beV a b c d L<=n:=by
 unfold beV
 rw[<-yj h]
 have t:=sf n a b c d
 have e:=(cS L).1 hc
 refine⟨fun g=>?_,fun g=>Int.not_lt.1 fun q=>?_⟩
 ·have:=dv (show L+1<=amL n a b c d+1 by omega)
  omega
 ·have:=dv (show amL n a b c d+1<=L by omega)
  omega
theorem CB {a b c d L:Int} (hc:aN L=true):beV a b c d (aw L)=feV a b c d (30*aP (L+1)+30):=by
 unfold beV
 rw[gq hc,show 30*(aP (L+1)+1)=30*aP (L+1)+30 by omega]
theorem gJ {a b c d:Int} (h:bN a b c d) {L:Int} (hc:aN L=true):29<=beV a b c d (aw L)-beV a b c d L/\beV a b c d (aw L)-beV a b c d L<=30:=by
 rw[CB hc];exact Hr h _
theorem Qa {n L a b c d:Int} (hc:aN L=true) (g0:L<=amL n a b c d) (g1:amL n a b c d<aw L):amL n a b c d=L:=by
 rcases Int.lt_or_le L (amL n a b c d) with q|q
 ·exact absurd (mQ n a b c d) ((bC hc).2.2.2 _ q g1)
 ·omega
theorem pU {a b c d:Int} (h:bN a b c d) {L:Int} (hc:aN L=true) (n:Int):amL n a b c d=L↔beV a b c d L<=n/\n<beV a b c d (aw L):=by
 have s:=bC hc
 have x:=ri h hc n
 have y:=ri h s.2.2.1 n
 refine⟨fun e=>?_,fun g=>Qa hc (x.2 g.1) ?_⟩
 ·have:=(not_congr y).1 (by omega)
  have:=x.1 (by omega)
  omega
 ·have:=(not_congr y).2 (by omega)
  omega
theorem DC {a b c d:Int} (h:bN a b c d) {L:Int} (hc:aN L=true):amL (beV a b c d L) a b c d=L:=(pU h hc _).2 ⟨Int.le_refl _,by have:=gJ h hc;omega⟩
theorem IP {a b c d:Int} (h:bN a b c d) {L:Int} (hc:aN L=true):amL (beV a b c d L-1) a b c d<L:=by
 have:=(not_congr (ri h hc (beV a b c d L-1))).2 (by omega)
 omega
theorem fj {a b c d:Int} (h:bN a b c d) {L:Int} (hc:aN L=true):L-1<=beV a b c d L/\beV a b c d L<=L+2:=by
 have e:=DC h hc
 have q:=IP h hc
 have m:=vO h (beV a b c d L-1)
 have c2:=mQ (beV a b c d L-1) a b c d
 refine⟨?_,?_⟩
 ·have r:=oG h.la.1 h.la.2 h.lo.1 h.lo.2 (beV a b c d L)
  have i:=pn (riV (((a:Int):Rat)/((b:Int):Rat)) (((c:Int):Rat)/((d:Int):Rat)) (beV a b c d L))
  rw[show aA (riV (((a:Int):Rat)/((b:Int):Rat)) (((c:Int):Rat)/((d:Int):Rat)) (beV a b c d L))=L from e,oj] at i
  have l:=(EV wax (lo:=((L:Int):Rat)) (hi:=(((L+1:Int)):Rat)) (by rw[ft];grind) 10).1
  have l2:((L:Int):Rat)<=nmL L:=l
  have z:((L:Int):Rat)<(((beV a b c d L+2:Int)):Rat):=by rw[Rat.intCast_add,show((2:Int):Rat)=2 from rfl];grind
  have:=Rat.intCast_lt_intCast.1 z
  omega
 ·have:aw (amL (beV a b c d L-1) a b c d)<=L:=Int.not_lt.1 fun x=>(bC c2).2.2.2 L q x hc
  omega
theorem Oq {a b c d:Int} (h:bN a b c d) {L:Int} (hc:aN L=true):aA (((beV a b c d L+2:Int)):Rat)=L:=by
 have n:=fj h hc
 rw[kG (by rw[Ai];decide),Rat.floor_intCast]
 have s:=ce (beV a b c d L+2)
 have x:=bC hc
 rcases Int.lt_trichotomy L (bL (beV a b c d L+2)) with q|q|q
 ·exact absurd s.2.2.1 (x.2.2.2 _ q (by omega))
 ·exact q.symm
 ·exact absurd hc (s.2.2.2 L q (by omega))
end
end Go.Proofs.YtgdpkknapcgcbaaGreatDoor
