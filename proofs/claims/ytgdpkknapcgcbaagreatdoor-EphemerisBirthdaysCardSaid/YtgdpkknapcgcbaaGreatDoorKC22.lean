import Derived.Test.YtgdpkknapcgcbaaGreatDoorKC20
namespace Go.Proofs.YtgdpkknapcgcbaaGreatDoor
open Go.RowKit
set_option maxRecDepth 100000
set_option linter.unusedVariables false
set_option maxHeartbeats 8000000
def kli:Rat:=((-1132959:Int):Rat)
def gC (t:Rat):Rat:=(t-kli)*(((600:Int):Rat)/((1577917828:Int):Rat))-((1:Int):Rat)/((4:Int):Rat)
def Ao (t:Rat):Rat:=dR (gC t) (((-1:Int):Rat)/((2:Int):Rat)) (((1:Int):Rat)/((2:Int):Rat))
def dN (t:Rat):Rat:=((27:Int):Rat)-((108:Int):Rat)*(Ao t).abs
def bZ (t:Rat):Rat:=rmod (eg t-dN t) ((360:Int):Rat)
def obl:Rat:=((1397:Int):Rat)/((3438:Int):Rat)
def hV (t:Rat):Rat:=obl*sof (bZ t)
def cA (h:Rat):Rat:=sof (bF h+((90:Int):Rat))
def eV (t lat:Rat):Rat:=hV t*sof lat/sof (lat+((90:Int):Rat))
def fl (t lat:Rat):Rat:=bF (-(eV t lat/cA (hV t)))
theorem lJ:obl=1397/3438:=by decide+kernel
theorem r90:((90:Int):Rat)=90:=rfl
theorem mr:(((-1:Int):Rat)/((2:Int):Rat))= -1/2/\(((1:Int):Rat)/((2:Int):Rat))=1/2:=by decide+kernel
theorem Iv (y:Rat) (m:Int):(dR y (-1/2) (1/2)).abs <=(y-((m:Int):Rat)).abs :=by
 have l:=EN (x:=y) (a:= -1/2) (b:=1/2) (by grind)
 have u:=C4 (x:=y) (a:= -1/2) (b:=1/2) (by grind)
 obtain⟨n,e⟩:∃n:Int,dR y (-1/2) (1/2)=y-((n:Int):Rat):=by
  refine⟨((y- -1/2)/(1/2- -1/2)).floor,?_⟩
  unfold dR
  rw[if_neg (by grind)]
  unfold rmod
  rw[if_neg (by grind)]
  grind
 rw[e] at l u ⊢
 have h:m=n\/m<=n-1\/n+1<=m:=by omega
 rcases h with h|h|h
 ·rw[h];exact Rat.le_refl
 ·have:=cM h
  rw[Rat.intCast_sub,Rat.intCast_one] at this
  unfold Rat.abs;split <;> split <;> grind
 ·have:=cM h
  rw[Rat.intCast_add,Rat.intCast_one] at this
  unfold Rat.abs;split <;> split <;> grind
theorem sM (y d:Rat):(dR (y+d) (-1/2) (1/2)).abs <=(dR y (-1/2) (1/2)).abs +d.abs:=by
 obtain⟨n,e⟩:∃n:Int,dR y (-1/2) (1/2)=y-((n:Int):Rat):=by
  refine⟨((y- -1/2)/(1/2- -1/2)).floor,?_⟩
  unfold dR
  rw[if_neg (by grind)]
  unfold rmod
  rw[if_neg (by grind)]
  grind
 have h:=Iv (y+d) n
 have g:(y+d-((n:Int):Rat)).abs <=(y-((n:Int):Rat)).abs +d.abs:=by
  unfold Rat.abs;split <;> split <;> split <;> grind
 rw[e];grind
theorem JI (t:Rat):(dN (t+((1:Int):Rat))-dN t).abs <=1/1000:=by
 have e:gC (t+((1:Int):Rat))=gC t+((600:Int):Rat)/((1577917828:Int):Rat):=by unfold gC;rw[Rat.intCast_one];grind
 have e':gC t=gC (t+((1:Int):Rat))+ -(((600:Int):Rat)/((1577917828:Int):Rat)):=by rw[e];grind
 have k:(((600:Int):Rat)/((1577917828:Int):Rat)).abs <=1/200000:=by decide+kernel
 have k':(-(((600:Int):Rat)/((1577917828:Int):Rat))).abs <=1/200000:=by decide+kernel
 have a:=sM (gC t) (((600:Int):Rat)/((1577917828:Int):Rat))
 have b:=sM (gC (t+((1:Int):Rat))) (-(((600:Int):Rat)/((1577917828:Int):Rat)))
 rw[<-e] at a
 rw[<-e'] at b
 unfold dN Ao
 rw[mr.1,mr.2,show((108:Int):Rat)=108 from rfl,show((27:Int):Rat)=27 from rfl]
 exact fx (by grind) (by grind)
theorem oQ {p q:Rat} (h1:((-90:Int):Rat)<=p) (h2:p<=q) (h3:q<=((90:Int):Rat)):sof p<=sof q:=by
 by_cases e:p=q
 ·rw[e];exact Rat.le_refl
 ·exact Rat.le_of_lt (qg h1 (by grind) h3)
theorem pm (x:Rat):sof (rmod x ((360:Int):Rat))=sof x:=by rw[gW bU,kT]
theorem nP {y:Rat} (h0: -1<=y) (h1:y<=1):((-90:Int):Rat)<=bF y/\bF y<=((90:Int):Rat):=by
 have h:=D7 (h:=y*((3438:Int):Rat)) (by rw[fD,show((-3438:Int):Rat)= -3438 from rfl];grind) (by rw[fD];grind)
 unfold bF
 rw[fp,r90,show((-90:Int):Rat)= -90 from rfl]
 have a:=h.1
 have b:=h.2.1
 rw[show((-24:Int):Rat)= -24 from rfl] at a
 rw[show((24:Int):Rat)=24 from rfl] at b
 constructor <;> grind
theorem kL {y:Rat} (h0: -1<=y) (h1:y<=1):sof (bF y)=y:=Cw h0 h1
theorem M9 {lat:Rat} (h0: -60<=lat) (h1:lat<=60): -(2978/3438)<=sof lat/\sof lat<=2978/3438:=by
 have a:sof 60=2978/3438:=by decide+kernel
 have b:sof (-60)= -(2978/3438):=by decide+kernel
 rw[<-a]
 have b': -sof 60=sof (-60):=by rw[a,b]
 rw[b']
 exact⟨oQ (by rw[show((-90:Int):Rat)= -90 from rfl];grind) h0 (by rw[r90];grind),oQ (by rw[show((-90:Int):Rat)= -90 from rfl];grind) h1 (by rw[r90];grind)⟩
theorem Nx {lat:Rat} (h0: -60<=lat) (h1:lat<=60):1/2<=sof (lat+((90:Int):Rat)):=by
 have a:sof 30=1/2:=by decide+kernel
 rw[<-a]
 by_cases h:lat<=0
 ·exact oQ (by rw[show((-90:Int):Rat)= -90 from rfl];grind) (by rw[r90];grind) (by rw[r90];grind)
 ·have e:=xU (lat+((90:Int):Rat))
  rw[show((180:Int):Rat)-(lat+((90:Int):Rat))=90-lat by rw[show((180:Int):Rat)=180 from rfl,r90];grind] at e
  rw[<-e]
  exact oQ (by rw[show((-90:Int):Rat)= -90 from rfl];grind) (by grind) (by rw[r90];grind)
theorem nX {h:Rat} (h0: -obl<=h) (h1:h<=obl):9/10<=cA h/\cA h<=1:=by
 rw[lJ] at h0 h1
 have e:=kL (y:=h) (by grind) (by grind)
 have c:=Gf (bF h)
 have n:=(JU (bF h)).2
 rw[e] at c n
 have b:=fN (bF h+((90:Int):Rat))
 have p:0<=cA h:=by
  unfold cA
  rw[n]
  exact Rat.abs_nonneg
 refine⟨?_,b.2⟩
 unfold cA at p ⊢
 generalize sof (bF h+((90:Int):Rat))=x at*
 have k:=cv c
 rw[show((1:Int):Rat)/((500:Int):Rat)=1/500 by decide+kernel,Rat.intCast_one] at k
 refine Rat.not_lt.1 fun q=>?_
 have m:=Rat.mul_nonneg (a:=9/10-x) (b:=9/10+x) (by grind) (by grind)
 have m2:=Rat.mul_nonneg (a:=1397/3438-h) (b:=1397/3438+h) (by grind) (by grind)
 grind
theorem rU (t:Rat): -obl<=hV t/\hV t<=obl:=by
 have b:=fN (bZ t)
 unfold hV
 rw[lJ]
 constructor <;> grind
def quo (t lat:Rat):Rat:=eV t lat/cA (hV t)
theorem rp (t lat:Rat):quo t lat=sof lat/sof (lat+((90:Int):Rat))*(hV t/cA (hV t)):=by
 unfold quo eV
 rw[Rat.div_def,Rat.div_def,Rat.div_def,Rat.div_def];grind
theorem jJ {x c b:Rat} (hc:0<c) (h:x<=b*c):x/c<=b:=Rat.not_lt.1 fun q=>by rw[Rat.lt_div_iff hc] at q;grind
theorem jL {x c b:Rat} (hc:0<c) (h:b*c<=x):b<=x/c:=Rat.not_lt.1 fun q=>by rw[Rat.div_lt_iff hc] at q;grind
theorem An {lat:Rat} (h0: -60<=lat) (h1:lat<=60): -(2978/1719)<=sof lat/sof (lat+((90:Int):Rat))/\sof lat/sof (lat+((90:Int):Rat))<=2978/1719:=by
 have s:=M9 h0 h1
 have c:=Nx h0 h1
 exact⟨jL (by grind) (by grind),jJ (by grind) (by grind)⟩
theorem Qx (t:Rat): -(1397/3438*(10/9))<=hV t/cA (hV t)/\hV t/cA (hV t)<=1397/3438*(10/9):=by
 have h:=rU t
 have c:=nX h.1 h.2
 rw[lJ] at h
 exact⟨jL (by grind) (by grind),jJ (by grind) (by grind)⟩
theorem fP {x y a b:Rat} (ha:0<=a) (hb:0<=b) (x0: -a<=x) (x1:x<=a) (y0: -b<=y) (y1:y<=b): -(a*b)<=x*y/\x*y<=a*b:=by
 have m1:=Rat.mul_nonneg (a:=a-x) (b:=b+y) (by grind) (by grind)
 have m2:=Rat.mul_nonneg (a:=a+x) (b:=b-y) (by grind) (by grind)
 have m3:=Rat.mul_nonneg (a:=a-x) (b:=b-y) (by grind) (by grind)
 have m4:=Rat.mul_nonneg (a:=a+x) (b:=b+y) (by grind) (by grind)
 constructor <;> grind
theorem oZ (t:Rat) {lat:Rat} (h0: -60<=lat) (h1:lat<=60): -(79/100)<=quo t lat/\quo t lat<=79/100:=by
 have a:=An h0 h1
 have b:=Qx t
 have m:=fP (by grind) (by grind) a.1 a.2 b.1 b.2
 rw[rp]
 constructor <;> grind
theorem zb {y:Rat} (h0: -(79/100)<=y) (h1:y<=79/100): -53<=bF y/\bF y<=53:=by
 have r:=nP (y:=y) (by grind) (by grind)
 have e:=kL (y:=y) (by grind) (by grind)
 have a:79/100<sof 53:=by decide+kernel
 have b:sof (-53)< -(79/100):=by decide+kernel
 constructor
 ·refine Rat.not_lt.1 fun q=>?_
  have:=qg r.1 q (by rw[r90];grind)
  grind
 ·refine Rat.not_lt.1 fun q=>?_
  have:=qg (by rw[show((-90:Int):Rat)= -90 from rfl];grind) q r.2
  grind
theorem sw (t:Rat) {lat:Rat} (h0: -60<=lat) (h1:lat<=60): -53<=fl t lat/\fl t lat<=53:=by
 have q:=oZ t h0 h1
 exact zb (y:= -(quo t lat)) (by grind) (by grind)
def kV (k:Int):Int:=max (-15) (min k 15)
def S15 (k:Int):Int:=spk (kV k)-131*kV k
theorem R9:∀n:Nat,n<30->131<=spk ((n:Int)-15+1)-spk ((n:Int)-15):=by decide+kernel
theorem PY (k:Int):S15 k<=S15 (k+1):=by
 unfold S15
 by_cases h: -15<=k/\k<15
 ·have e1:kV k=k:=by unfold kV;omega
  have e2:kV (k+1)=k+1:=by unfold kV;omega
  have:=R9 (k+15).toNat (by omega)
  rw[show(((k+15).toNat :Nat):Int)=k+15 by omega,show k+15-15=k by omega] at this
  rw[e1,e2];omega
 ·have e:kV (k+1)=kV k:=by unfold kV;omega
  rw[e];exact Int.le_refl _
theorem Ci {y:Rat} (h0:((-15:Int):Rat)<=y) (h1:y<=((15:Int):Rat)):lin S15 y=lin spk y-131*y:=by
 have f0:=KW h0
 have f1:y.floor<=15:=by
  have:=Rat.floor_monotone h1
  rwa[Rat.floor_intCast] at this
 have e1:kV y.floor=y.floor:=by unfold kV;omega
 by_cases h:y.floor<15
 ·have e2:kV (y.floor+1)=y.floor+1:=by unfold kV;omega
  unfold lin S15
  rw[e1,e2]
  simp only [Rat.intCast_sub,Rat.intCast_mul,Rat.intCast_add,Rat.intCast_one]
  rw[show((131:Int):Rat)=131 from rfl]
  grind
 ·have e3:y.floor=15:=by omega
  have e4:y=((15:Int):Rat):=by
   have:=fe y;rw[e3] at this;grind
  rw[e4,jp,jp]
  decide+kernel
theorem FK {y z:Rat} (h0:((-15:Int):Rat)<=y) (h:y<=z) (h1:z<=((15:Int):Rat)):131*(z-y)<=lin spk z-lin spk y:=by
 have:=Ay PY h
 rw[Ci h0 (by grind),Ci (by grind) h1] at this
 grind
theorem ui {y z:Rat} (y0: -(79/100)<=y) (y1:y<=79/100) (z0: -(79/100)<=z) (z1:z<=79/100):(bF z-bF y).abs <=3438*15/524*(z-y).abs :=by
 have key:∀ {y z:Rat}, -(79/100)<=y->y<=z->z<=79/100->0<=bF z-bF y/\bF z-bF y<=3438*15/524*(z-y):=by
  intro y z y0 h z1
  have a:=zb (y:=y) y0 (by grind)
  have b:=zb (y:=z) (by grind) z1
  have ey:=kL (y:=y) (by grind) (by grind)
  have ez:=kL (y:=z) (by grind) (by grind)
  have hp:bF y<=bF z:=Rat.not_lt.1 fun q=>by
   have:=qg (by rw[show((-90:Int):Rat)= -90 from rfl];grind) q (by rw[r90];grind)
   grind
  have s:=FK (y:=bF y/wd) (z:=bF z/wd) (by rw[fp,show((-15:Int):Rat)= -15 from rfl];grind) (by rw[fp];grind) (by rw[fp,show((15:Int):Rat)=15 from rfl];grind)
  rw[<-jj,<-jj,ey,ez,fD,fp] at s
  constructor <;> grind
 rcases Rat.le_total (a:=y) (b:=z) with h|h
 ·have k:=key y0 h z1
  rw[Rat.abs_of_nonneg k.1,Rat.abs_of_nonneg (x:=z-y) (by grind)]
  exact k.2
 ·have k:=key z0 h y1
  rw[Rat.abs_of_nonpos (by grind),Rat.abs_of_nonpos (x:=z-y) (by grind)]
  grind
theorem H5 (t u:Rat):(cA (hV u)-cA (hV t)).abs <=900/524*(hV u-hV t).abs :=by
 have a:=rU t
 have b:=rU u
 rw[lJ] at a b
 have l:=ui (y:=hV t) (z:=hV u) (by grind) (by grind) (by grind) (by grind)
 have s:=nR (bF (hV u)+((90:Int):Rat)) (bF (hV t)+((90:Int):Rat))
 rw[show bF (hV u)+((90:Int):Rat)-(bF (hV t)+((90:Int):Rat))=bF (hV u)-bF (hV t) by grind,show((60:Int):Rat)/((3438:Int):Rat)=60/3438 by decide+kernel] at s
 unfold cA
 grind
theorem lC (x y:Rat):(x*y).abs =x.abs*y.abs:=by
 rcases Rat.le_total (a:=0) (b:=x) with hx|hx <;> rcases Rat.le_total (a:=0) (b:=y) with hy|hy
 ·rw[Rat.abs_of_nonneg hx,Rat.abs_of_nonneg hy,Rat.abs_of_nonneg (Rat.mul_nonneg hx hy)]
 ·have m:=Rat.mul_nonneg hx (b:= -y) (by grind)
  rw[Rat.abs_of_nonneg hx,Rat.abs_of_nonpos hy,Rat.abs_of_nonpos (by grind)];grind
 ·have m:=Rat.mul_nonneg (a:= -x) (by grind) hy
  rw[Rat.abs_of_nonpos hx,Rat.abs_of_nonneg hy,Rat.abs_of_nonpos (by grind)];grind
 ·have m:=Rat.mul_nonneg (a:= -x) (b:= -y) (by grind) (by grind)
  rw[Rat.abs_of_nonpos hx,Rat.abs_of_nonpos hy,Rat.abs_of_nonneg (by grind)];grind
theorem NP (t u:Rat):(hV u/cA (hV u)-hV t/cA (hV t)).abs <=21/10*(hV u-hV t).abs :=by
 have a:=rU t
 have b:=rU u
 have ct:=nX a.1 a.2
 have cu:=nX b.1 b.2
 have l:=H5 t u
 rw[lJ] at a b
 generalize cA (hV u)=p at*
 generalize cA (hV t)=q at*
 generalize hV u=y at*
 generalize hV t=x at*
 have hp:p≠0:=by grind
 have hq:q≠0:=by grind
 have pq:0<p*q:=Rat.mul_pos (by grind) (by grind)
 have e:y/p-x/q=((y-x)*q-x*(p-q))/(p*q):=by
  rw[Rat.div_def,Rat.div_def,Rat.div_def,Rat.inv_mul_rev]
  grind
 have pq2:81/100<=p*q:=by
  have:=Rat.mul_nonneg (a:=p-9/10) (b:=q-9/10) (by grind) (by grind)
  grind
 have n1:((y-x)*q).abs <=(y-x).abs :=by
  rw[lC,Rat.abs_of_nonneg (x:=q) (by grind)]
  have:=Rat.mul_nonneg (a:=(y-x).abs) (b:=1-q) Rat.abs_nonneg (by grind)
  grind
 have n2:(x*(p-q)).abs <=1397/3438*(900/524)*(y-x).abs :=by
  rw[lC]
  have hx:x.abs<=1397/3438:=fx (by grind) (by grind)
  have:=Rat.mul_nonneg (a:=1397/3438-x.abs) (b:=(p-q).abs) (by grind) Rat.abs_nonneg
  grind
 have n:((y-x)*q-x*(p-q)).abs <=17/10*(y-x).abs :=by
  have k:=uX ((y-x)*q)
  have k2:=uX (x*(p-q))
  have k3:(0:Rat)<=(y-x).abs :=Rat.abs_nonneg
  exact fx (by grind) (by grind)
 have m:=cv n
 rw[e]
 have k3:(0:Rat)<=(y-x).abs :=Rat.abs_nonneg
 have w:=Rat.mul_nonneg (a:=(y-x).abs) (b:=p*q-81/100) k3 (by grind)
 exact fx (jL pq (by grind)) (jJ pq (by grind))
theorem JF (t:Rat):(sof (bZ (t+((1:Int):Rat)))-sof (bZ t)).abs <=60/3438*(104/100):=by
 have s:=LX t
 have pr:=cv (JI t)
 unfold bZ
 rw[pm,pm]
 generalize hm:((360:Int):Rat)*(((1:Int):Rat)/pyr)-(dt (t+((1:Int):Rat))-dt t)=m at s
 have hu:∃j:Int,eg (t+((1:Int):Rat))=eg t+m+((360:Int):Rat)*((j:Int):Rat):=by
  have e:=s.1
  rw[gW bU] at e
  refine⟨((eg (t+((1:Int):Rat))-eg t)/((360:Int):Rat)).floor,?_⟩
  rw[Rat.intCast_neg] at e
  grind
 obtain⟨j,hu⟩:=hu
 have l:=nR (eg t+m-dN (t+((1:Int):Rat))) (eg t-dN t)
 rw[hu,show eg t+m+((360:Int):Rat)*((j:Int):Rat)-dN (t+((1:Int):Rat))=(eg t+m-dN (t+((1:Int):Rat)))+((360:Int):Rat)*((j:Int):Rat) by grind,kT]
 rw[show((60:Int):Rat)/((3438:Int):Rat)=60/3438 by decide+kernel] at l
 have d:(eg t+m-dN (t+((1:Int):Rat))-(eg t-dN t)).abs <=104/100:=fx (by grind) (by grind)
 grind
theorem zK (t:Rat) {lat:Rat} (h0: -60<=lat) (h1:lat<=60):(fl (t+((1:Int):Rat)) lat-fl t lat).abs <=27/10:=by
 have d:=JF t
 have q:=oZ t h0 h1
 have q':=oZ (t+((1:Int):Rat)) h0 h1
 have hl:=NP t (t+((1:Int):Rat))
 have ta:=An h0 h1
 have hh:(hV (t+((1:Int):Rat))-hV t).abs <=1397/3438*(60/3438*(104/100)):=by
  unfold hV
  rw[show obl*sof (bZ (t+((1:Int):Rat)))-obl*sof (bZ t)=obl*(sof (bZ (t+((1:Int):Rat)))-sof (bZ t)) by grind,lC,lJ,Rat.abs_of_nonneg (x:=1397/3438) (by grind)]
  grind
 have e:(quo (t+((1:Int):Rat)) lat-quo t lat).abs <=2978/1719*(21/10*(1397/3438*(60/3438*(104/100)))):=by
  rw[rp,rp,show sof lat/sof (lat+((90:Int):Rat))*(hV (t+((1:Int):Rat))/cA (hV (t+((1:Int):Rat))))-sof lat/sof (lat+((90:Int):Rat))*(hV t/cA (hV t))=sof lat/sof (lat+((90:Int):Rat))*(hV (t+((1:Int):Rat))/cA (hV (t+((1:Int):Rat)))-hV t/cA (hV t)) by grind,lC]
  have ka:(sof lat/sof (lat+((90:Int):Rat))).abs <=2978/1719:=fx ta.1 ta.2
  generalize (sof lat/sof (lat+((90:Int):Rat))).abs =x at*
  have kb:(0:Rat)<=(hV (t+((1:Int):Rat))/cA (hV (t+((1:Int):Rat)))-hV t/cA (hV t)).abs :=Rat.abs_nonneg
  generalize (hV (t+((1:Int):Rat))/cA (hV (t+((1:Int):Rat)))-hV t/cA (hV t)).abs =y at*
  have m:=Rat.mul_nonneg (a:=2978/1719-x) (b:=y) (by grind) kb
  grind
 have a:=ui (y:= -(quo t lat)) (z:= -(quo (t+((1:Int):Rat)) lat)) (by grind) (by grind) (by grind) (by grind)
 rw[show -(quo (t+((1:Int):Rat)) lat)- -(quo t lat)= -(quo (t+((1:Int):Rat)) lat-quo t lat) by grind,show(-(quo (t+((1:Int):Rat)) lat-quo t lat)).abs =(quo (t+((1:Int):Rat)) lat-quo t lat).abs by unfold Rat.abs;split <;> split <;> grind] at a
 show(bF (-(quo (t+((1:Int):Rat)) lat))-bF (-(quo t lat))).abs <=27/10
 grind
def mG (x:Rat):Int:=spk (pk x+1)-spk (pk x)
def nN (t:Rat):Rat:=((14:Int):Rat)/((360:Int):Rat)-(sof (mof t pay)).abs *(((1:Int):Rat)/((1080:Int):Rat))
def fg (t:Rat):Rat:=((360:Int):Rat)/pyr*(((1:Int):Rat)-((mG (mof t pay):Int):Rat)/((225:Int):Rat)*nN t)
def iI (k:Int):Int:=if k%6=0\/k%6=5 then 1670 else if k%6=1\/k%6=4 then 1795 else 1935
def gU (t:Rat):Rat:=((iI (prt (bZ t) 12):Int):Rat)/((1800:Int):Rat)
def gX (t:Rat):Rat:=fg t*(((1:Int):Rat)/((360:Int):Rat))*(sof (mof t pay)*(((573:Int):Rat)/((10:Int):Rat))*nN t*(((1:Int):Rat)/((360:Int):Rat)))*pyr
def kap:Rat:=((1577917828:Int):Rat)/((1582237828:Int):Rat)*(((1:Int):Rat)/((360:Int):Rat))
def po (lon:Rat):Rat:=(((45461:Int):Rat)/((600:Int):Rat)-lon)*(((1:Int):Rat)/((360:Int):Rat))
def cr (t lat lon:Rat) (qd sg:Int):Rat:=t+((qd:Int):Rat)/((4:Int):Rat)+(po lon-gX t)+(fg t*gU t*(((qd:Int):Rat)/((4:Int):Rat))+((sg:Int):Rat)*fl t lat)*kap
def dU (x:Rat):Rat:=(((x*((1048576:Int):Rat)).floor :Int):Rat)*(((1:Int):Rat)/((1048576:Int):Rat))
theorem iV (x:Rat):x-1/1000000<=dU x/\dU x<=x:=by
 have a:=fe (x*((1048576:Int):Rat))
 have b:=fA (x*((1048576:Int):Rat))
 unfold dU
 rw[show((1:Int):Rat)/((1048576:Int):Rat)=1/1048576 by decide+kernel]
 rw[show((1048576:Int):Rat)=1048576 from rfl] at*
 constructor <;> grind
theorem Mm (t:Rat):13/360<=nN t/\nN t<=14/360:=by
 have b:=fN (mof t pay)
 have c:(sof (mof t pay)).abs <=1:=fx b.1 b.2
 have d:(0:Rat)<=(sof (mof t pay)).abs :=Rat.abs_nonneg
 unfold nN
 rw[show((14:Int):Rat)/((360:Int):Rat)=14/360 by decide+kernel,show((1:Int):Rat)/((1080:Int):Rat)=1/1080 by decide+kernel]
 constructor <;> grind
theorem N3 (x:Rat): -1<=((mG x:Int):Rat)/((225:Int):Rat)/\((mG x:Int):Rat)/((225:Int):Rat)<=1:=by
 have s:=ji (pk x)
 have a:=cM s.1
 have b:=cM s.2
 rw[show((-225:Int):Rat)= -225 from rfl] at a
 rw[show((225:Int):Rat)=225 from rfl] at b ⊢
 unfold mG
 exact⟨jL (by grind) (by grind),jJ (by grind) (by grind)⟩
theorem uQ (t:Rat):947/1000<=fg t/\fg t<=1025/1000:=by
 have p:=Mm t
 have s:=N3 (mof t pay)
 have m:=fP (b:=14/360) (a:=1) (x:=((mG (mof t pay):Int):Rat)/((225:Int):Rat)) (y:=nN t) (by grind) (by grind) s.1 s.2 (by grind) p.2
 have k1:985/1000<=((360:Int):Rat)/pyr:=by decide+kernel
 have k2:986/1000≥((360:Int):Rat)/pyr:=by decide+kernel
 have k3:9856/10000<=((360:Int):Rat)/pyr:=by decide+kernel
 unfold fg
 rw[Rat.intCast_one]
 generalize ((mG (mof t pay):Int):Rat)/((225:Int):Rat)*nN t=y at*
 generalize ((360:Int):Rat)/pyr=c at*
 have u:=Rat.mul_nonneg (a:=c-9856/10000) (b:=1-y) (by grind) (by grind)
 have v:=Rat.mul_nonneg (a:=986/1000-c) (b:=1-y) (by grind) (by grind)
 constructor <;> grind
theorem N6 (t:Rat):1670/1800<=gU t/\gU t<=1935/1800:=by
 have h:1670<=iI (prt (bZ t) 12)/\iI (prt (bZ t) 12)<=1935:=by unfold iI;split <;> (try split) <;> omega
 have a:=cM h.1
 have b:=cM h.2
 rw[show((1670:Int):Rat)=1670 from rfl] at a
 rw[show((1935:Int):Rat)=1935 from rfl] at b
 unfold gU
 rw[show((1800:Int):Rat)=1800 from rfl]
 exact⟨jL (by grind) (by grind),jJ (by grind) (by grind)⟩
theorem iC (t:Rat):87/100<=fg t*gU t/\fg t*gU t<=111/100:=by
 have m:=uQ t
 have r:=N6 t
 have u:=Rat.mul_nonneg (a:=fg t-947/1000) (b:=gU t) (by grind) (by grind)
 have v:=Rat.mul_nonneg (a:=1025/1000-fg t) (b:=gU t) (by grind) (by grind)
 constructor <;> grind
theorem pe:277/100000<=kap/\kap<=27703/10000000:=by decide+kernel
theorem OC (t:Rat):sof (mof t pay)*(((573:Int):Rat)/((10:Int):Rat))*nN t=573/10*epi (sof (mof t pay)) ssz sch:=by
 unfold nN epi
 rw[uY.1,uY.2.1,show((573:Int):Rat)/((10:Int):Rat)=573/10 by decide+kernel,show((14:Int):Rat)/((360:Int):Rat)=7/180 by decide+kernel,show((1:Int):Rat)/((1080:Int):Rat)=1/1080 by decide+kernel]
 grind
theorem zU (t:Rat):gX t=fg t*(epi (sof (mof t pay)) ssz sch*(573/10*(1/360)*(1/360)*pyr)):=by
 unfold gX
 rw[OC,show((1:Int):Rat)/((360:Int):Rat)=1/360 by decide+kernel];grind
theorem E7:16/100<=573/10*(1/360)*(1/360)*pyr/\573/10*(1/360)*(1/360)*pyr<=162/1000:=by decide+kernel
theorem KR (t:Rat): -(41/1080)<=epi (sof (mof t pay)) ssz sch/\epi (sof (mof t pay)) ssz sch<=41/1080:=by
 have b:=fN (mof t pay)
 have e:=rH (s:=ssz) (c:=sch) b.1 b.2 (by decide+kernel) (by decide+kernel) (by decide+kernel)
 have k:ssz*(1-sch)=41/1080:=by decide+kernel
 rw[k] at e;exact e
theorem ot (t:Rat): -(64/10000)<=gX t/\gX t<=64/10000:=by
 have m:=uQ t
 have e:=KR t
 have c:=E7
 have n:=fP (a:=41/1080) (b:=162/1000) (x:=epi (sof (mof t pay)) ssz sch) (y:=573/10*(1/360)*(1/360)*pyr) (by grind) (by grind) e.1 e.2 (by grind) c.2
 have o:=fP (a:=1025/1000) (b:=41/1080*(162/1000)) (x:=fg t) (by grind) (by grind) (by grind) m.2 n.1 n.2
 rw[zU]
 constructor <;> grind
theorem Md (t:Rat):(epi (sof (mof (t+((1:Int):Rat)) pay)) ssz sch-epi (sof (mof t pay)) ssz sch).abs <=7/180*(60/3438*(986/1000)):=by
 have l:=nR (((360:Int):Rat)*br (t+((1:Int):Rat)) pay) (((360:Int):Rat)*br t pay)
 rw[<-sG jS,<-sG jS,dJ,show((60:Int):Rat)/((3438:Int):Rat)=60/3438 by decide+kernel] at l
 have d:(((360:Int):Rat)*(br t pay+((1:Int):Rat)/pay)-((360:Int):Rat)*br t pay).abs <=986/1000:=by
  rw[show((360:Int):Rat)*(br t pay+((1:Int):Rat)/pay)-((360:Int):Rat)*br t pay=((360:Int):Rat)*(((1:Int):Rat)/pay) by grind]
  decide+kernel
 have bt:=fN (mof t pay)
 have bu:=fN (mof (t+((1:Int):Rat)) pay)
 have s1:=uY.1
 have s2:=uY.2.1
 generalize sof (mof (t+((1:Int):Rat)) pay)=b at*
 generalize sof (mof t pay)=x at*
 have n:(b-x).abs <=60/3438*(986/1000):=by grind
 rcases Rat.le_total (a:=x) (b:=b) with h|h
 ·have e:=ms (s:=ssz) (c:=sch) bt.1 bu.2 h (by decide+kernel) (by decide+kernel) (by decide+kernel)
  rw[Rat.abs_of_nonneg (x:=b-x) (by grind)] at n
  rw[Rat.abs_of_nonneg e.1]
  rw[s1] at e ⊢
  grind
 ·have e:=ms (s:=ssz) (c:=sch) bu.1 bt.2 h (by decide+kernel) (by decide+kernel) (by decide+kernel)
  rw[Rat.abs_of_nonpos (x:=b-x) (by grind)] at n
  rw[Rat.abs_of_nonpos (by grind)]
  rw[s1] at e ⊢
  grind
theorem Cc (t:Rat):(gX (t+((1:Int):Rat))-gX t).abs <=1/1000:=by
 have m:=uQ t
 have m':=uQ (t+((1:Int):Rat))
 have e:=KR t
 have d:=cv (Md t)
 have c:=E7
 rw[zU,zU]
 generalize epi (sof (mof (t+((1:Int):Rat)) pay)) ssz sch=b at*
 generalize epi (sof (mof t pay)) ssz sch=x at*
 generalize fg (t+((1:Int):Rat))=n at*
 generalize fg t=o at*
 generalize 573/10*(1/360)*(1/360)*pyr=k at*
 have u:=fP (a:=1025/1000) (b:=7/180*(60/3438*(986/1000))) (x:=n) (y:=b-x) (by grind) (by grind) (by grind) (by grind) (by grind) (by grind)
 have v:=fP (a:=78/1000) (b:=41/1080) (x:=n-o) (y:=x) (by grind) (by grind) (by grind) (by grind) e.1 e.2
 have q:=fP (a:=1025/1000*(7/180*(60/3438*(986/1000)))+78/1000*(41/1080)) (b:=162/1000) (x:=n*(b-x)+(n-o)*x) (y:=k) (by grind) (by grind) (by grind) (by grind) (by grind) (by grind)
 rw[show n*(b*k)-o*(x*k)=(n*(b-x)+(n-o)*x)*k by grind]
 exact fx (by grind) (by grind)
theorem Ft (t:Rat) {lat:Rat} (lon:Rat) (h0: -60<=lat) (h1:lat<=60):985/1000<=cr (t+((1:Int):Rat)) lat lon 1 1-cr t lat lon 1 1/\cr (t+((1:Int):Rat)) lat lon 1 1-cr t lat lon 1 1<=1015/1000:=by
 have e:=cv (Cc t)
 have d:=cv (zK t h0 h1)
 have s:=iC t
 have s':=iC (t+((1:Int):Rat))
 have k:=pe
 unfold cr
 rw[show((1:Int):Rat)/((4:Int):Rat)=1/4 by decide+kernel,Rat.intCast_one] at*
 generalize fl (t+1) lat=d2 at*
 generalize fl t lat=d1 at*
 generalize fg (t+1)*gU (t+1)=s2 at*
 generalize fg t*gU t=s1 at*
 generalize gX (t+1)=e2 at*
 generalize gX t=e1 at*
 have m:=fP (a:=1/4*(111/100-87/100)+27/10) (b:=27703/10000000) (x:=(s2*(1/4)+1*d2)-(s1*(1/4)+1*d1)) (y:=kap) (by grind) (by grind) (by grind) (by grind) (by grind) k.2
 constructor <;> grind
theorem M8 (y:Rat):bF (-y)= -bF y:=by
 by_cases h:y<0
 ·rw[<-rP h];grind
 ·by_cases h2:y=0
  ·subst h2;decide+kernel
  ·have:=rP (x:= -y) (by grind)
   rw[show- -y=y by grind] at this
   exact this.symm
theorem lS (lat:Rat):sof (-lat+((90:Int):Rat))=sof (lat+((90:Int):Rat)):=by
 have e:=xU (lat+((90:Int):Rat))
 rw[show((180:Int):Rat)-(lat+((90:Int):Rat))= -lat+((90:Int):Rat) by rw[show((180:Int):Rat)=180 from rfl,r90];grind] at e
 exact e
end Go.Proofs.YtgdpkknapcgcbaaGreatDoor
