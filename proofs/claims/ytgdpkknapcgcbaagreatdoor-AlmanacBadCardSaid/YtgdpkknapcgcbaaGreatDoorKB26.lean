import Derived.Test.YtgdpkknapcgcbaaGreatDoorKB23
namespace Go.Proofs.YtgdpkknapcgcbaaGreatDoor
open Go.RowKit
set_option maxRecDepth 100000
set_option linter.unusedVariables false
set_option maxHeartbeats 8000000
def kli:Rat:=((-1132959:Int):Rat)
def gE (t:Rat):Rat:=(t-kli)*(((600:Int):Rat)/((1577917828:Int):Rat))-((1:Int):Rat)/((4:Int):Rat)
def vf (t:Rat):Rat:=cB (gE t) (((-1:Int):Rat)/((2:Int):Rat)) (((1:Int):Rat)/((2:Int):Rat))
def eh (t:Rat):Rat:=((27:Int):Rat)-((108:Int):Rat)*(vf t).abs
def cv (t:Rat):Rat:=rmod (bp t-eh t) ((360:Int):Rat)
def obl:Rat:=((1397:Int):Rat)/((3438:Int):Rat)
def hV (t:Rat):Rat:=obl*sof (cv t)
def cJ (h:Rat):Rat:=sof (aW h+((90:Int):Rat))
def eV (t lat:Rat):Rat:=hV t*sof lat/sof (lat+((90:Int):Rat))
def eT (t lat:Rat):Rat:=aW (-(eV t lat/cJ (hV t)))
theorem iR:obl=1397/3438:=by decide+kernel
theorem r90:((90:Int):Rat)=90:=rfl
theorem lW:(((-1:Int):Rat)/((2:Int):Rat))= -1/2/\(((1:Int):Rat)/((2:Int):Rat))=1/2:=by decide+kernel
theorem yv (y:Rat) (m:Int):(cB y (-1/2) (1/2)).abs <=(y-((m:Int):Rat)).abs :=by
 have l:=xt (x:=y) (a:= -1/2) (b:=1/2) (by grind)
 have u:=uN (x:=y) (a:= -1/2) (b:=1/2) (by grind)
 obtain⟨n,e⟩:∃n:Int,cB y (-1/2) (1/2)=y-((n:Int):Rat):=by
  refine⟨((y- -1/2)/(1/2- -1/2)).floor,?_⟩
  unfold cB
  rw[if_neg (by grind)]
  unfold rmod
  rw[if_neg (by grind)]
  grind
 rw[e] at l u ⊢
 have h:m=n\/m<=n-1\/n+1<=m:=by omega
 rcases h with h|h|h
 ·rw[h];exact Rat.le_refl
 ·have:=bG h
  rw[Rat.intCast_sub,Rat.intCast_one] at this
  unfold Rat.abs;split <;> split <;> grind
 ·have:=bG h
  rw[Rat.intCast_add,Rat.intCast_one] at this
  unfold Rat.abs;split <;> split <;> grind
theorem te (y d:Rat):(cB (y+d) (-1/2) (1/2)).abs <=(cB y (-1/2) (1/2)).abs +d.abs:=by
 obtain⟨n,e⟩:∃n:Int,cB y (-1/2) (1/2)=y-((n:Int):Rat):=by
  refine⟨((y- -1/2)/(1/2- -1/2)).floor,?_⟩
  unfold cB
  rw[if_neg (by grind)]
  unfold rmod
  rw[if_neg (by grind)]
  grind
 have h:=yv (y+d) n
 have g:(y+d-((n:Int):Rat)).abs <=(y-((n:Int):Rat)).abs +d.abs:=by
  unfold Rat.abs;split <;> split <;> split <;> grind
 rw[e];grind
theorem yK (t:Rat):(eh (t+((1:Int):Rat))-eh t).abs <=1/1000:=by
 have e:gE (t+((1:Int):Rat))=gE t+((600:Int):Rat)/((1577917828:Int):Rat):=by unfold gE;rw[Rat.intCast_one];grind
 have e':gE t=gE (t+((1:Int):Rat))+ -(((600:Int):Rat)/((1577917828:Int):Rat)):=by rw[e];grind
 have k:(((600:Int):Rat)/((1577917828:Int):Rat)).abs <=1/200000:=by decide+kernel
 have k':(-(((600:Int):Rat)/((1577917828:Int):Rat))).abs <=1/200000:=by decide+kernel
 have a:=te (gE t) (((600:Int):Rat)/((1577917828:Int):Rat))
 have b:=te (gE (t+((1:Int):Rat))) (-(((600:Int):Rat)/((1577917828:Int):Rat)))
 rw[<-e] at a
 rw[<-e'] at b
 unfold eh vf
 rw[lW.1,lW.2,show((108:Int):Rat)=108 from rfl,show((27:Int):Rat)=27 from rfl]
 exact fq (by grind) (by grind)
theorem nV {p q:Rat} (h1:((-90:Int):Rat)<=p) (h2:p<=q) (h3:q<=((90:Int):Rat)):sof p<=sof q:=by
 by_cases e:p=q
 ·rw[e];exact Rat.le_refl
 ·exact Rat.le_of_lt (kC h1 (by grind) h3)
theorem qG (x:Rat):sof (rmod x ((360:Int):Rat))=sof x:=by rw[dP aN,j4]
theorem tX {y:Rat} (h0: -1<=y) (h1:y<=1):((-90:Int):Rat)<=aW y/\aW y<=((90:Int):Rat):=by
 have h:=uK (h:=y*((3438:Int):Rat)) (by rw[dB,show((-3438:Int):Rat)= -3438 from rfl];grind) (by rw[dB];grind)
 unfold aW
 rw[dr,r90,show((-90:Int):Rat)= -90 from rfl]
 have a:=h.1
 have b:=h.2.1
 rw[show((-24:Int):Rat)= -24 from rfl] at a
 rw[show((24:Int):Rat)=24 from rfl] at b
 constructor <;> grind
theorem ke {y:Rat} (h0: -1<=y) (h1:y<=1):sof (aW y)=y:=tW h0 h1
theorem Bl {lat:Rat} (h0: -60<=lat) (h1:lat<=60): -(2978/3438)<=sof lat/\sof lat<=2978/3438:=by
 have a:sof 60=2978/3438:=by decide+kernel
 have b:sof (-60)= -(2978/3438):=by decide+kernel
 rw[<-a]
 have b': -sof 60=sof (-60):=by rw[a,b]
 rw[b']
 exact⟨nV (by rw[show((-90:Int):Rat)= -90 from rfl];grind) h0 (by rw[r90];grind),nV (by rw[show((-90:Int):Rat)= -90 from rfl];grind) h1 (by rw[r90];grind)⟩
theorem Bq {lat:Rat} (h0: -60<=lat) (h1:lat<=60):1/2<=sof (lat+((90:Int):Rat)):=by
 have a:sof 30=1/2:=by decide+kernel
 rw[<-a]
 by_cases h:lat<=0
 ·exact nV (by rw[show((-90:Int):Rat)= -90 from rfl];grind) (by rw[r90];grind) (by rw[r90];grind)
 ·have e:=yq (lat+((90:Int):Rat))
  rw[show((180:Int):Rat)-(lat+((90:Int):Rat))=90-lat by rw[show((180:Int):Rat)=180 from rfl,r90];grind] at e
  rw[<-e]
  exact nV (by rw[show((-90:Int):Rat)= -90 from rfl];grind) (by grind) (by rw[r90];grind)
theorem oD {h:Rat} (h0: -obl<=h) (h1:h<=obl):9/10<=cJ h/\cJ h<=1:=by
 rw[iR] at h0 h1
 have e:=ke (y:=h) (by grind) (by grind)
 have c:=wX (aW h)
 have n:=(zJ (aW h)).2
 rw[e] at c n
 have b:=fc (aW h+((90:Int):Rat))
 have p:0<=cJ h:=by
  unfold cJ
  rw[n]
  exact Rat.abs_nonneg
 refine⟨?_,b.2⟩
 unfold cJ at p ⊢
 generalize sof (aW h+((90:Int):Rat))=x at*
 have k:=dQ c
 rw[show((1:Int):Rat)/((500:Int):Rat)=1/500 by decide+kernel,Rat.intCast_one] at k
 refine Rat.not_lt.1 fun q=>?_
 have m:=Rat.mul_nonneg (a:=9/10-x) (b:=9/10+x) (by grind) (by grind)
 have m2:=Rat.mul_nonneg (a:=1397/3438-h) (b:=1397/3438+h) (by grind) (by grind)
 grind
theorem l6 (t:Rat): -obl<=hV t/\hV t<=obl:=by
 have b:=fc (cv t)
 unfold hV
 rw[iR]
 constructor <;> grind
def quo (t lat:Rat):Rat:=eV t lat/cJ (hV t)
theorem sE (t lat:Rat):quo t lat=sof lat/sof (lat+((90:Int):Rat))*(hV t/cJ (hV t)):=by
 unfold quo eV
 rw[Rat.div_def,Rat.div_def,Rat.div_def,Rat.div_def];grind
theorem hJ {x c b:Rat} (hc:0<c) (h:x<=b*c):x/c<=b:=Rat.not_lt.1 fun q=>by rw[Rat.lt_div_iff hc] at q;grind
theorem hZ {x c b:Rat} (hc:0<c) (h:b*c<=x):b<=x/c:=Rat.not_lt.1 fun q=>by rw[Rat.div_lt_iff hc] at q;grind
theorem vI {lat:Rat} (h0: -60<=lat) (h1:lat<=60): -(2978/1719)<=sof lat/sof (lat+((90:Int):Rat))/\sof lat/sof (lat+((90:Int):Rat))<=2978/1719:=by
 have s:=Bl h0 h1
 have c:=Bq h0 h1
 exact⟨hZ (by grind) (by grind),hJ (by grind) (by grind)⟩
theorem EZ (t:Rat): -(1397/3438*(10/9))<=hV t/cJ (hV t)/\hV t/cJ (hV t)<=1397/3438*(10/9):=by
 have h:=l6 t
 have c:=oD h.1 h.2
 rw[iR] at h
 exact⟨hZ (by grind) (by grind),hJ (by grind) (by grind)⟩
theorem dH {x y a b:Rat} (ha:0<=a) (hb:0<=b) (x0: -a<=x) (x1:x<=a) (y0: -b<=y) (y1:y<=b): -(a*b)<=x*y/\x*y<=a*b:=by
 have m1:=Rat.mul_nonneg (a:=a-x) (b:=b+y) (by grind) (by grind)
 have m2:=Rat.mul_nonneg (a:=a+x) (b:=b-y) (by grind) (by grind)
 have m3:=Rat.mul_nonneg (a:=a-x) (b:=b-y) (by grind) (by grind)
 have m4:=Rat.mul_nonneg (a:=a+x) (b:=b+y) (by grind) (by grind)
 constructor <;> grind
theorem nB (t:Rat) {lat:Rat} (h0: -60<=lat) (h1:lat<=60): -(79/100)<=quo t lat/\quo t lat<=79/100:=by
 have a:=vI h0 h1
 have b:=EZ t
 have m:=dH (by grind) (by grind) a.1 a.2 b.1 b.2
 rw[sE]
 constructor <;> grind
theorem sy {y:Rat} (h0: -(79/100)<=y) (h1:y<=79/100): -53<=aW y/\aW y<=53:=by
 have r:=tX (y:=y) (by grind) (by grind)
 have e:=ke (y:=y) (by grind) (by grind)
 have a:79/100<sof 53:=by decide+kernel
 have b:sof (-53)< -(79/100):=by decide+kernel
 constructor
 ·refine Rat.not_lt.1 fun q=>?_
  have:=kC r.1 q (by rw[r90];grind)
  grind
 ·refine Rat.not_lt.1 fun q=>?_
  have:=kC (by rw[show((-90:Int):Rat)= -90 from rfl];grind) q r.2
  grind
theorem jB (t:Rat) {lat:Rat} (h0: -60<=lat) (h1:lat<=60): -53<=eT t lat/\eT t lat<=53:=by
 have q:=nB t h0 h1
 exact sy (y:= -(quo t lat)) (by grind) (by grind)
def gM (k:Int):Int:=max (-15) (min k 15)
def S15 (k:Int):Int:=spk (gM k)-131*gM k
theorem FA:∀n:Nat,n<30->131<=spk ((n:Int)-15+1)-spk ((n:Int)-15):=by decide+kernel
theorem CZ (k:Int):S15 k<=S15 (k+1):=by
 unfold S15
 by_cases h: -15<=k/\k<15
 ·have e1:gM k=k:=by unfold gM;omega
  have e2:gM (k+1)=k+1:=by unfold gM;omega
  have:=FA (k+15).toNat (by omega)
  rw[show(((k+15).toNat :Nat):Int)=k+15 by omega,show k+15-15=k by omega] at this
  rw[e1,e2];omega
 ·have e:gM (k+1)=gM k:=by unfold gM;omega
  rw[e];exact Int.le_refl _
theorem tR {y:Rat} (h0:((-15:Int):Rat)<=y) (h1:y<=((15:Int):Rat)):lin S15 y=lin spk y-131*y:=by
 have f0:=AJ h0
 have f1:y.floor<=15:=by
  have:=Rat.floor_monotone h1
  rwa[Rat.floor_intCast] at this
 have e1:gM y.floor=y.floor:=by unfold gM;omega
 by_cases h:y.floor<15
 ·have e2:gM (y.floor+1)=y.floor+1:=by unfold gM;omega
  unfold lin S15
  rw[e1,e2]
  simp only [Rat.intCast_sub,Rat.intCast_mul,Rat.intCast_add,Rat.intCast_one]
  rw[show((131:Int):Rat)=131 from rfl]
  grind
 ·have e3:y.floor=15:=by omega
  have e4:y=((15:Int):Rat):=by
   have:=dF y;rw[e3] at this;grind
  rw[e4,fx,fx]
  decide+kernel
theorem xl {y z:Rat} (h0:((-15:Int):Rat)<=y) (h:y<=z) (h1:z<=((15:Int):Rat)):131*(z-y)<=lin spk z-lin spk y:=by
 have:=q7 CZ h
 rw[tR h0 (by grind),tR (by grind) h1] at this
 grind
theorem rH {y z:Rat} (y0: -(79/100)<=y) (y1:y<=79/100) (z0: -(79/100)<=z) (z1:z<=79/100):(aW z-aW y).abs <=3438*15/524*(z-y).abs :=by
 have key:∀ {y z:Rat}, -(79/100)<=y->y<=z->z<=79/100->0<=aW z-aW y/\aW z-aW y<=3438*15/524*(z-y):=by
  intro y z y0 h z1
  have a:=sy (y:=y) y0 (by grind)
  have b:=sy (y:=z) (by grind) z1
  have ey:=ke (y:=y) (by grind) (by grind)
  have ez:=ke (y:=z) (by grind) (by grind)
  have hp:aW y<=aW z:=Rat.not_lt.1 fun q=>by
   have:=kC (by rw[show((-90:Int):Rat)= -90 from rfl];grind) q (by rw[r90];grind)
   grind
  have s:=xl (y:=aW y/wd) (z:=aW z/wd) (by rw[dr,show((-15:Int):Rat)= -15 from rfl];grind) (by rw[dr];grind) (by rw[dr,show((15:Int):Rat)=15 from rfl];grind)
  rw[<-fC,<-fC,ey,ez,dB,dr] at s
  constructor <;> grind
 rcases Rat.le_total (a:=y) (b:=z) with h|h
 ·have k:=key y0 h z1
  rw[Rat.abs_of_nonneg k.1,Rat.abs_of_nonneg (x:=z-y) (by grind)]
  exact k.2
 ·have k:=key z0 h y1
  rw[Rat.abs_of_nonpos (by grind),Rat.abs_of_nonpos (x:=z-y) (by grind)]
  grind
theorem yC (t u:Rat):(cJ (hV u)-cJ (hV t)).abs <=900/524*(hV u-hV t).abs :=by
 have a:=l6 t
 have b:=l6 u
 rw[iR] at a b
 have l:=rH (y:=hV t) (z:=hV u) (by grind) (by grind) (by grind) (by grind)
 have s:=lQ (aW (hV u)+((90:Int):Rat)) (aW (hV t)+((90:Int):Rat))
 rw[show aW (hV u)+((90:Int):Rat)-(aW (hV t)+((90:Int):Rat))=aW (hV u)-aW (hV t) by grind,show((60:Int):Rat)/((3438:Int):Rat)=60/3438 by decide+kernel] at s
 unfold cJ
 grind
theorem jj (x y:Rat):(x*y).abs =x.abs*y.abs:=by
 rcases Rat.le_total (a:=0) (b:=x) with hx|hx <;> rcases Rat.le_total (a:=0) (b:=y) with hy|hy
 ·rw[Rat.abs_of_nonneg hx,Rat.abs_of_nonneg hy,Rat.abs_of_nonneg (Rat.mul_nonneg hx hy)]
 ·have m:=Rat.mul_nonneg hx (b:= -y) (by grind)
  rw[Rat.abs_of_nonneg hx,Rat.abs_of_nonpos hy,Rat.abs_of_nonpos (by grind)];grind
 ·have m:=Rat.mul_nonneg (a:= -x) (by grind) hy
  rw[Rat.abs_of_nonpos hx,Rat.abs_of_nonneg hy,Rat.abs_of_nonpos (by grind)];grind
 ·have m:=Rat.mul_nonneg (a:= -x) (b:= -y) (by grind) (by grind)
  rw[Rat.abs_of_nonpos hx,Rat.abs_of_nonpos hy,Rat.abs_of_nonneg (by grind)];grind
theorem Dw (t u:Rat):(hV u/cJ (hV u)-hV t/cJ (hV t)).abs <=21/10*(hV u-hV t).abs :=by
 have a:=l6 t
 have b:=l6 u
 have ct:=oD a.1 a.2
 have cu:=oD b.1 b.2
 have l:=yC t u
 rw[iR] at a b
 generalize cJ (hV u)=p at*
 generalize cJ (hV t)=q at*
 generalize hV u=y at*
 generalize hV t=x at*
 have hp:p≠0:=by grind
 have hq:q≠0:=by grind
 have pq:0<p*q:=Rat.mul_pos (by grind) (by grind)
 have e:y/p-x/q=((y-x)*q-x*(p-q))/(p*q):=by
  rw[Rat.div_def,Rat.div_def,Rat.div_def,Rat.inv_mul_rev]
  grind
 have pq2:81/100<=p*q:=by
  have:=Rat.mul_nonneg (a:=p-9/10) (b:=q-9/10) (by grind) (by grind)
  grind
 have n1:((y-x)*q).abs <=(y-x).abs :=by
  rw[jj,Rat.abs_of_nonneg (x:=q) (by grind)]
  have:=Rat.mul_nonneg (a:=(y-x).abs) (b:=1-q) Rat.abs_nonneg (by grind)
  grind
 have n2:(x*(p-q)).abs <=1397/3438*(900/524)*(y-x).abs :=by
  rw[jj]
  have hx:x.abs<=1397/3438:=fq (by grind) (by grind)
  have:=Rat.mul_nonneg (a:=1397/3438-x.abs) (b:=(p-q).abs) (by grind) Rat.abs_nonneg
  grind
 have n:((y-x)*q-x*(p-q)).abs <=17/10*(y-x).abs :=by
  have k:=nL ((y-x)*q)
  have k2:=nL (x*(p-q))
  have k3:(0:Rat)<=(y-x).abs :=Rat.abs_nonneg
  exact fq (by grind) (by grind)
 have m:=dQ n
 rw[e]
 have k3:(0:Rat)<=(y-x).abs :=Rat.abs_nonneg
 have w:=Rat.mul_nonneg (a:=(y-x).abs) (b:=p*q-81/100) k3 (by grind)
 exact fq (hZ pq (by grind)) (hJ pq (by grind))
theorem zP (t:Rat):(sof (cv (t+((1:Int):Rat)))-sof (cv t)).abs <=60/3438*(104/100):=by
 have s:=Bg t
 have pr:=dQ (yK t)
 unfold cv
 rw[qG,qG]
 generalize hm:((360:Int):Rat)*(((1:Int):Rat)/pyr)-(dD (t+((1:Int):Rat))-dD t)=m at s
 have hu:∃j:Int,bp (t+((1:Int):Rat))=bp t+m+((360:Int):Rat)*((j:Int):Rat):=by
  have e:=s.1
  rw[dP aN] at e
  refine⟨((bp (t+((1:Int):Rat))-bp t)/((360:Int):Rat)).floor,?_⟩
  rw[Rat.intCast_neg] at e
  grind
 obtain⟨j,hu⟩:=hu
 have l:=lQ (bp t+m-eh (t+((1:Int):Rat))) (bp t-eh t)
 rw[hu,show bp t+m+((360:Int):Rat)*((j:Int):Rat)-eh (t+((1:Int):Rat))=(bp t+m-eh (t+((1:Int):Rat)))+((360:Int):Rat)*((j:Int):Rat) by grind,j4]
 rw[show((60:Int):Rat)/((3438:Int):Rat)=60/3438 by decide+kernel] at l
 have d:(bp t+m-eh (t+((1:Int):Rat))-(bp t-eh t)).abs <=104/100:=fq (by grind) (by grind)
 grind
theorem sC (t:Rat) {lat:Rat} (h0: -60<=lat) (h1:lat<=60):(eT (t+((1:Int):Rat)) lat-eT t lat).abs <=27/10:=by
 have d:=zP t
 have q:=nB t h0 h1
 have q':=nB (t+((1:Int):Rat)) h0 h1
 have hl:=Dw t (t+((1:Int):Rat))
 have ta:=vI h0 h1
 have hh:(hV (t+((1:Int):Rat))-hV t).abs <=1397/3438*(60/3438*(104/100)):=by
  unfold hV
  rw[show obl*sof (cv (t+((1:Int):Rat)))-obl*sof (cv t)=obl*(sof (cv (t+((1:Int):Rat)))-sof (cv t)) by grind,jj,iR,Rat.abs_of_nonneg (x:=1397/3438) (by grind)]
  grind
 have e:(quo (t+((1:Int):Rat)) lat-quo t lat).abs <=2978/1719*(21/10*(1397/3438*(60/3438*(104/100)))):=by
  rw[sE,sE,show sof lat/sof (lat+((90:Int):Rat))*(hV (t+((1:Int):Rat))/cJ (hV (t+((1:Int):Rat))))-sof lat/sof (lat+((90:Int):Rat))*(hV t/cJ (hV t))=sof lat/sof (lat+((90:Int):Rat))*(hV (t+((1:Int):Rat))/cJ (hV (t+((1:Int):Rat)))-hV t/cJ (hV t)) by grind,jj]
  have ka:(sof lat/sof (lat+((90:Int):Rat))).abs <=2978/1719:=fq ta.1 ta.2
  generalize (sof lat/sof (lat+((90:Int):Rat))).abs =x at*
  have kb:(0:Rat)<=(hV (t+((1:Int):Rat))/cJ (hV (t+((1:Int):Rat)))-hV t/cJ (hV t)).abs :=Rat.abs_nonneg
  generalize (hV (t+((1:Int):Rat))/cJ (hV (t+((1:Int):Rat)))-hV t/cJ (hV t)).abs =y at*
  have m:=Rat.mul_nonneg (a:=2978/1719-x) (b:=y) (by grind) kb
  grind
 have a:=rH (y:= -(quo t lat)) (z:= -(quo (t+((1:Int):Rat)) lat)) (by grind) (by grind) (by grind) (by grind)
 rw[show -(quo (t+((1:Int):Rat)) lat)- -(quo t lat)= -(quo (t+((1:Int):Rat)) lat-quo t lat) by grind,show(-(quo (t+((1:Int):Rat)) lat-quo t lat)).abs =(quo (t+((1:Int):Rat)) lat-quo t lat).abs by unfold Rat.abs;split <;> split <;> grind] at a
 show(aW (-(quo (t+((1:Int):Rat)) lat))-aW (-(quo t lat))).abs <=27/10
 grind
def iE (x:Rat):Int:=spk (pk x+1)-spk (pk x)
def jq (t:Rat):Rat:=((14:Int):Rat)/((360:Int):Rat)-(sof (mof t pay)).abs *(((1:Int):Rat)/((1080:Int):Rat))
def dC (t:Rat):Rat:=((360:Int):Rat)/pyr*(((1:Int):Rat)-((iE (mof t pay):Int):Rat)/((225:Int):Rat)*jq t)
def gy (k:Int):Int:=if k%6=0\/k%6=5 then 1670 else if k%6=1\/k%6=4 then 1795 else 1935
def fh (t:Rat):Rat:=((gy (prt (cv t) 12):Int):Rat)/((1800:Int):Rat)
def fL (t:Rat):Rat:=dC t*(((1:Int):Rat)/((360:Int):Rat))*(sof (mof t pay)*(((573:Int):Rat)/((10:Int):Rat))*jq t*(((1:Int):Rat)/((360:Int):Rat)))*pyr
def kap:Rat:=((1577917828:Int):Rat)/((1582237828:Int):Rat)*(((1:Int):Rat)/((360:Int):Rat))
def jb (lon:Rat):Rat:=(((45461:Int):Rat)/((600:Int):Rat)-lon)*(((1:Int):Rat)/((360:Int):Rat))
def b8 (t lat lon:Rat) (qd sg:Int):Rat:=t+((qd:Int):Rat)/((4:Int):Rat)+(jb lon-fL t)+(dC t*fh t*(((qd:Int):Rat)/((4:Int):Rat))+((sg:Int):Rat)*eT t lat)*kap
def aU (x:Rat):Rat:=(((x*((1048576:Int):Rat)).floor :Int):Rat)*(((1:Int):Rat)/((1048576:Int):Rat))
theorem kd (x:Rat):x-1/1000000<=aU x/\aU x<=x:=by
 have a:=dF (x*((1048576:Int):Rat))
 have b:=ec (x*((1048576:Int):Rat))
 unfold aU
 rw[show((1:Int):Rat)/((1048576:Int):Rat)=1/1048576 by decide+kernel]
 rw[show((1048576:Int):Rat)=1048576 from rfl] at*
 constructor <;> grind
theorem B4 (t:Rat):13/360<=jq t/\jq t<=14/360:=by
 have b:=fc (mof t pay)
 have c:(sof (mof t pay)).abs <=1:=fq b.1 b.2
 have d:(0:Rat)<=(sof (mof t pay)).abs :=Rat.abs_nonneg
 unfold jq
 rw[show((14:Int):Rat)/((360:Int):Rat)=14/360 by decide+kernel,show((1:Int):Rat)/((1080:Int):Rat)=1/1080 by decide+kernel]
 constructor <;> grind
theorem C2 (x:Rat): -1<=((iE x:Int):Rat)/((225:Int):Rat)/\((iE x:Int):Rat)/((225:Int):Rat)<=1:=by
 have s:=gI (pk x)
 have a:=bG s.1
 have b:=bG s.2
 rw[show((-225:Int):Rat)= -225 from rfl] at a
 rw[show((225:Int):Rat)=225 from rfl] at b ⊢
 unfold iE
 exact⟨hZ (by grind) (by grind),hJ (by grind) (by grind)⟩
theorem nx (t:Rat):947/1000<=dC t/\dC t<=1025/1000:=by
 have p:=B4 t
 have s:=C2 (mof t pay)
 have m:=dH (b:=14/360) (a:=1) (x:=((iE (mof t pay):Int):Rat)/((225:Int):Rat)) (y:=jq t) (by grind) (by grind) s.1 s.2 (by grind) p.2
 have k1:985/1000<=((360:Int):Rat)/pyr:=by decide+kernel
 have k2:986/1000≥((360:Int):Rat)/pyr:=by decide+kernel
 have k3:9856/10000<=((360:Int):Rat)/pyr:=by decide+kernel
 unfold dC
 rw[Rat.intCast_one]
 generalize ((iE (mof t pay):Int):Rat)/((225:Int):Rat)*jq t=y at*
 generalize ((360:Int):Rat)/pyr=c at*
 have u:=Rat.mul_nonneg (a:=c-9856/10000) (b:=1-y) (by grind) (by grind)
 have v:=Rat.mul_nonneg (a:=986/1000-c) (b:=1-y) (by grind) (by grind)
 constructor <;> grind
theorem DB (t:Rat):1670/1800<=fh t/\fh t<=1935/1800:=by
 have h:1670<=gy (prt (cv t) 12)/\gy (prt (cv t) 12)<=1935:=by unfold gy;split <;> (try split) <;> omega
 have a:=bG h.1
 have b:=bG h.2
 rw[show((1670:Int):Rat)=1670 from rfl] at a
 rw[show((1935:Int):Rat)=1935 from rfl] at b
 unfold fh
 rw[show((1800:Int):Rat)=1800 from rfl]
 exact⟨hZ (by grind) (by grind),hJ (by grind) (by grind)⟩
theorem fu (t:Rat):87/100<=dC t*fh t/\dC t*fh t<=111/100:=by
 have m:=nx t
 have r:=DB t
 have u:=Rat.mul_nonneg (a:=dC t-947/1000) (b:=fh t) (by grind) (by grind)
 have v:=Rat.mul_nonneg (a:=1025/1000-dC t) (b:=fh t) (by grind) (by grind)
 constructor <;> grind
theorem lv:277/100000<=kap/\kap<=27703/10000000:=by decide+kernel
theorem Ec (t:Rat):sof (mof t pay)*(((573:Int):Rat)/((10:Int):Rat))*jq t=573/10*epi (sof (mof t pay)) ssz sch:=by
 unfold jq epi
 rw[qq.1,qq.2.1,show((573:Int):Rat)/((10:Int):Rat)=573/10 by decide+kernel,show((14:Int):Rat)/((360:Int):Rat)=7/180 by decide+kernel,show((1:Int):Rat)/((1080:Int):Rat)=1/1080 by decide+kernel]
 grind
theorem ss (t:Rat):fL t=dC t*(epi (sof (mof t pay)) ssz sch*(573/10*(1/360)*(1/360)*pyr)):=by
 unfold fL
 rw[Ec,show((1:Int):Rat)/((360:Int):Rat)=1/360 by decide+kernel];grind
theorem wj:16/100<=573/10*(1/360)*(1/360)*pyr/\573/10*(1/360)*(1/360)*pyr<=162/1000:=by decide+kernel
theorem Ao (t:Rat): -(41/1080)<=epi (sof (mof t pay)) ssz sch/\epi (sof (mof t pay)) ssz sch<=41/1080:=by
 have b:=fc (mof t pay)
 have e:=nT (s:=ssz) (c:=sch) b.1 b.2 (by decide+kernel) (by decide+kernel) (by decide+kernel)
 have k:ssz*(1-sch)=41/1080:=by decide+kernel
 rw[k] at e;exact e
theorem lw (t:Rat): -(64/10000)<=fL t/\fL t<=64/10000:=by
 have m:=nx t
 have e:=Ao t
 have c:=wj
 have n:=dH (a:=41/1080) (b:=162/1000) (x:=epi (sof (mof t pay)) ssz sch) (y:=573/10*(1/360)*(1/360)*pyr) (by grind) (by grind) e.1 e.2 (by grind) c.2
 have o:=dH (a:=1025/1000) (b:=41/1080*(162/1000)) (x:=dC t) (by grind) (by grind) (by grind) m.2 n.1 n.2
 rw[ss]
 constructor <;> grind
theorem Bp (t:Rat):(epi (sof (mof (t+((1:Int):Rat)) pay)) ssz sch-epi (sof (mof t pay)) ssz sch).abs <=7/180*(60/3438*(986/1000)):=by
 have l:=lQ (((360:Int):Rat)*aX (t+((1:Int):Rat)) pay) (((360:Int):Rat)*aX t pay)
 rw[<-mg gJ,<-mg gJ,fe,show((60:Int):Rat)/((3438:Int):Rat)=60/3438 by decide+kernel] at l
 have d:(((360:Int):Rat)*(aX t pay+((1:Int):Rat)/pay)-((360:Int):Rat)*aX t pay).abs <=986/1000:=by
  rw[show((360:Int):Rat)*(aX t pay+((1:Int):Rat)/pay)-((360:Int):Rat)*aX t pay=((360:Int):Rat)*(((1:Int):Rat)/pay) by grind]
  decide+kernel
 have bt:=fc (mof t pay)
 have bu:=fc (mof (t+((1:Int):Rat)) pay)
 have s1:=qq.1
 have s2:=qq.2.1
 generalize sof (mof (t+((1:Int):Rat)) pay)=b at*
 generalize sof (mof t pay)=x at*
 have n:(b-x).abs <=60/3438*(986/1000):=by grind
 rcases Rat.le_total (a:=x) (b:=b) with h|h
 ·have e:=iu (s:=ssz) (c:=sch) bt.1 bu.2 h (by decide+kernel) (by decide+kernel) (by decide+kernel)
  rw[Rat.abs_of_nonneg (x:=b-x) (by grind)] at n
  rw[Rat.abs_of_nonneg e.1]
  rw[s1] at e ⊢
  grind
 ·have e:=iu (s:=ssz) (c:=sch) bu.1 bt.2 h (by decide+kernel) (by decide+kernel) (by decide+kernel)
  rw[Rat.abs_of_nonpos (x:=b-x) (by grind)] at n
  rw[Rat.abs_of_nonpos (by grind)]
  rw[s1] at e ⊢
  grind
theorem uk (t:Rat):(fL (t+((1:Int):Rat))-fL t).abs <=1/1000:=by
 have m:=nx t
 have m':=nx (t+((1:Int):Rat))
 have e:=Ao t
 have d:=dQ (Bp t)
 have c:=wj
 rw[ss,ss]
 generalize epi (sof (mof (t+((1:Int):Rat)) pay)) ssz sch=b at*
 generalize epi (sof (mof t pay)) ssz sch=x at*
 generalize dC (t+((1:Int):Rat))=n at*
 generalize dC t=o at*
 generalize 573/10*(1/360)*(1/360)*pyr=k at*
 have u:=dH (a:=1025/1000) (b:=7/180*(60/3438*(986/1000))) (x:=n) (y:=b-x) (by grind) (by grind) (by grind) (by grind) (by grind) (by grind)
 have v:=dH (a:=78/1000) (b:=41/1080) (x:=n-o) (y:=x) (by grind) (by grind) (by grind) (by grind) e.1 e.2
 have q:=dH (a:=1025/1000*(7/180*(60/3438*(986/1000)))+78/1000*(41/1080)) (b:=162/1000) (x:=n*(b-x)+(n-o)*x) (y:=k) (by grind) (by grind) (by grind) (by grind) (by grind) (by grind)
 rw[show n*(b*k)-o*(x*k)=(n*(b-x)+(n-o)*x)*k by grind]
 exact fq (by grind) (by grind)
theorem wJ (t:Rat) {lat:Rat} (lon:Rat) (h0: -60<=lat) (h1:lat<=60):985/1000<=b8 (t+((1:Int):Rat)) lat lon 1 1-b8 t lat lon 1 1/\b8 (t+((1:Int):Rat)) lat lon 1 1-b8 t lat lon 1 1<=1015/1000:=by
 have e:=dQ (uk t)
 have d:=dQ (sC t h0 h1)
 have s:=fu t
 have s':=fu (t+((1:Int):Rat))
 have k:=lv
 unfold b8
 rw[show((1:Int):Rat)/((4:Int):Rat)=1/4 by decide+kernel,Rat.intCast_one] at*
 generalize eT (t+1) lat=d2 at*
 generalize eT t lat=d1 at*
 generalize dC (t+1)*fh (t+1)=s2 at*
 generalize dC t*fh t=s1 at*
 generalize fL (t+1)=e2 at*
 generalize fL t=e1 at*
 have m:=dH (a:=1/4*(111/100-87/100)+27/10) (b:=27703/10000000) (x:=(s2*(1/4)+1*d2)-(s1*(1/4)+1*d1)) (y:=kap) (by grind) (by grind) (by grind) (by grind) (by grind) k.2
 constructor <;> grind
end Go.Proofs.YtgdpkknapcgcbaaGreatDoor
