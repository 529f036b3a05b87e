import Derived.Test.YtgdpkknapcgcbaaGreatDoorKD24
namespace Go.Proofs.YtgdpkknapcgcbaaGreatDoor
open Go.RowKit
set_option maxRecDepth 100000
set_option linter.unusedVariables false
set_option maxHeartbeats 8000000
def kli:Rat:=((-1132959:Int):Rat)
def ed (t:Rat):Rat:=(t-kli)*(((600:Int):Rat)/((1577917828:Int):Rat))-((1:Int):Rat)/((4:Int):Rat)
def tR (t:Rat):Rat:=cO (ed t) (((-1:Int):Rat)/((2:Int):Rat)) (((1:Int):Rat)/((2:Int):Rat))
def cM (t:Rat):Rat:=((27:Int):Rat)-((108:Int):Rat)*(tR t).abs
def cg (t:Rat):Rat:=rmod (cV t-cM t) ((360:Int):Rat)
def obl:Rat:=((1397:Int):Rat)/((3438:Int):Rat)
def hV (t:Rat):Rat:=obl*sof (cg t)
def bz (h:Rat):Rat:=sof (a6 h+((90:Int):Rat))
def eV (t lat:Rat):Rat:=hV t*sof lat/sof (lat+((90:Int):Rat))
def dW (t lat:Rat):Rat:=a6 (-(eV t lat/bz (hV t)))
theorem iz:obl=1397/3438:=by decide+kernel
theorem r90:((90:Int):Rat)=90:=rfl
theorem ja:(((-1:Int):Rat)/((2:Int):Rat))= -1/2/\(((1:Int):Rat)/((2:Int):Rat))=1/2:=by decide+kernel
theorem Ax (y:Rat) (m:Int):(cO y (-1/2) (1/2)).abs <=(y-((m:Int):Rat)).abs :=by
 have l:=zq (x:=y) (a:= -1/2) (b:=1/2) (by grind)
 have u:=ww (x:=y) (a:= -1/2) (b:=1/2) (by grind)
 obtain⟨n,e⟩:∃n:Int,cO y (-1/2) (1/2)=y-((n:Int):Rat):=by
  refine⟨((y- -1/2)/(1/2- -1/2)).floor,?_⟩
  unfold cO
  rw[if_neg (by grind)]
  unfold rmod
  rw[if_neg (by grind)]
  grind
 rw[e] at l u ⊢
 have h:m=n\/m<=n-1\/n+1<=m:=by omega
 rcases h with h|h|h
 ·rw[h];exact Rat.le_refl
 ·have:=bT h
  rw[Rat.intCast_sub,Rat.intCast_one] at this
  unfold Rat.abs;split <;> split <;> grind
 ·have:=bT h
  rw[Rat.intCast_add,Rat.intCast_one] at this
  unfold Rat.abs;split <;> split <;> grind
theorem mI (y d:Rat):(cO (y+d) (-1/2) (1/2)).abs <=(cO y (-1/2) (1/2)).abs +d.abs:=by
 obtain⟨n,e⟩:∃n:Int,cO y (-1/2) (1/2)=y-((n:Int):Rat):=by
  refine⟨((y- -1/2)/(1/2- -1/2)).floor,?_⟩
  unfold cO
  rw[if_neg (by grind)]
  unfold rmod
  rw[if_neg (by grind)]
  grind
 have h:=Ax (y+d) n
 have g:(y+d-((n:Int):Rat)).abs <=(y-((n:Int):Rat)).abs +d.abs:=by
  unfold Rat.abs;split <;> split <;> split <;> grind
 rw[e];grind
theorem AN (t:Rat):(cM (t+((1:Int):Rat))-cM t).abs <=1/1000:=by
 have e:ed (t+((1:Int):Rat))=ed t+((600:Int):Rat)/((1577917828:Int):Rat):=by unfold ed;rw[Rat.intCast_one];grind
 have e':ed t=ed (t+((1:Int):Rat))+ -(((600:Int):Rat)/((1577917828:Int):Rat)):=by rw[e];grind
 have k:(((600:Int):Rat)/((1577917828:Int):Rat)).abs <=1/200000:=by decide+kernel
 have k':(-(((600:Int):Rat)/((1577917828:Int):Rat))).abs <=1/200000:=by decide+kernel
 have a:=mI (ed t) (((600:Int):Rat)/((1577917828:Int):Rat))
 have b:=mI (ed (t+((1:Int):Rat))) (-(((600:Int):Rat)/((1577917828:Int):Rat)))
 rw[<-e] at a
 rw[<-e'] at b
 unfold cM tR
 rw[ja.1,ja.2,show((108:Int):Rat)=108 from rfl,show((27:Int):Rat)=27 from rfl]
 exact dG (by grind) (by grind)
theorem j8 {p q:Rat} (h1:((-90:Int):Rat)<=p) (h2:p<=q) (h3:q<=((90:Int):Rat)):sof p<=sof q:=by
 by_cases e:p=q
 ·rw[e];exact Rat.le_refl
 ·exact Rat.le_of_lt (ld h1 (by grind) h3)
theorem lk (x:Rat):sof (rmod x ((360:Int):Rat))=sof x:=by rw[eF bQ,gV]
theorem jY {y:Rat} (h0: -1<=y) (h1:y<=1):((-90:Int):Rat)<=a6 y/\a6 y<=((90:Int):Rat):=by
 have h:=wH (h:=y*((3438:Int):Rat)) (by rw[dX,show((-3438:Int):Rat)= -3438 from rfl];grind) (by rw[dX];grind)
 unfold a6
 rw[dH,r90,show((-90:Int):Rat)= -90 from rfl]
 have a:=h.1
 have b:=h.2.1
 rw[show((-24:Int):Rat)= -24 from rfl] at a
 rw[show((24:Int):Rat)=24 from rfl] at b
 constructor <;> grind
theorem gM {y:Rat} (h0: -1<=y) (h1:y<=1):sof (a6 y)=y:=uC h0 h1
theorem D5 {lat:Rat} (h0: -60<=lat) (h1:lat<=60): -(2978/3438)<=sof lat/\sof lat<=2978/3438:=by
 have a:sof 60=2978/3438:=by decide+kernel
 have b:sof (-60)= -(2978/3438):=by decide+kernel
 rw[<-a]
 have b': -sof 60=sof (-60):=by rw[a,b]
 rw[b']
 exact⟨j8 (by rw[show((-90:Int):Rat)= -90 from rfl];grind) h0 (by rw[r90];grind),j8 (by rw[show((-90:Int):Rat)= -90 from rfl];grind) h1 (by rw[r90];grind)⟩
theorem En {lat:Rat} (h0: -60<=lat) (h1:lat<=60):1/2<=sof (lat+((90:Int):Rat)):=by
 have a:sof 30=1/2:=by decide+kernel
 rw[<-a]
 by_cases h:lat<=0
 ·exact j8 (by rw[show((-90:Int):Rat)= -90 from rfl];grind) (by rw[r90];grind) (by rw[r90];grind)
 ·have e:=tq (lat+((90:Int):Rat))
  rw[show((180:Int):Rat)-(lat+((90:Int):Rat))=90-lat by rw[show((180:Int):Rat)=180 from rfl,r90];grind] at e
  rw[<-e]
  exact j8 (by rw[show((-90:Int):Rat)= -90 from rfl];grind) (by grind) (by rw[r90];grind)
theorem kC {h:Rat} (h0: -obl<=h) (h1:h<=obl):9/10<=bz h/\bz h<=1:=by
 rw[iz] at h0 h1
 have e:=gM (y:=h) (by grind) (by grind)
 have c:=yU (a6 h)
 have n:=(zZ (a6 h)).2
 rw[e] at c n
 have b:=dN (a6 h+((90:Int):Rat))
 have p:0<=bz h:=by
  unfold bz
  rw[n]
  exact Rat.abs_nonneg
 refine⟨?_,b.2⟩
 unfold bz at p ⊢
 generalize sof (a6 h+((90:Int):Rat))=x at*
 have k:=br c
 rw[show((1:Int):Rat)/((500:Int):Rat)=1/500 by decide+kernel,Rat.intCast_one] at k
 refine Rat.not_lt.1 fun q=>?_
 have m:=Rat.mul_nonneg (a:=9/10-x) (b:=9/10+x) (by grind) (by grind)
 have m2:=Rat.mul_nonneg (a:=1397/3438-h) (b:=1397/3438+h) (by grind) (by grind)
 grind
theorem my (t:Rat): -obl<=hV t/\hV t<=obl:=by
 have b:=dN (cg t)
 unfold hV
 rw[iz]
 constructor <;> grind
def quo (t lat:Rat):Rat:=eV t lat/bz (hV t)
theorem lS (t lat:Rat):quo t lat=sof lat/sof (lat+((90:Int):Rat))*(hV t/bz (hV t)):=by
 unfold quo eV
 rw[Rat.div_def,Rat.div_def,Rat.div_def,Rat.div_def];grind
theorem gj {x c b:Rat} (hc:0<c) (h:x<=b*c):x/c<=b:=Rat.not_lt.1 fun q=>by rw[Rat.lt_div_iff hc] at q;grind
theorem f6 {x c b:Rat} (hc:0<c) (h:b*c<=x):b<=x/c:=Rat.not_lt.1 fun q=>by rw[Rat.div_lt_iff hc] at q;grind
theorem sM {lat:Rat} (h0: -60<=lat) (h1:lat<=60): -(2978/1719)<=sof lat/sof (lat+((90:Int):Rat))/\sof lat/sof (lat+((90:Int):Rat))<=2978/1719:=by
 have s:=D5 h0 h1
 have c:=En h0 h1
 exact⟨f6 (by grind) (by grind),gj (by grind) (by grind)⟩
theorem Ie (t:Rat): -(1397/3438*(10/9))<=hV t/bz (hV t)/\hV t/bz (hV t)<=1397/3438*(10/9):=by
 have h:=my t
 have c:=kC h.1 h.2
 rw[iz] at h
 exact⟨f6 (by grind) (by grind),gj (by grind) (by grind)⟩
theorem dL {x y a b:Rat} (ha:0<=a) (hb:0<=b) (x0: -a<=x) (x1:x<=a) (y0: -b<=y) (y1:y<=b): -(a*b)<=x*y/\x*y<=a*b:=by
 have m1:=Rat.mul_nonneg (a:=a-x) (b:=b+y) (by grind) (by grind)
 have m2:=Rat.mul_nonneg (a:=a+x) (b:=b-y) (by grind) (by grind)
 have m3:=Rat.mul_nonneg (a:=a-x) (b:=b-y) (by grind) (by grind)
 have m4:=Rat.mul_nonneg (a:=a+x) (b:=b+y) (by grind) (by grind)
 constructor <;> grind
theorem kA (t:Rat) {lat:Rat} (h0: -60<=lat) (h1:lat<=60): -(79/100)<=quo t lat/\quo t lat<=79/100:=by
 have a:=sM h0 h1
 have b:=Ie t
 have m:=dL (by grind) (by grind) a.1 a.2 b.1 b.2
 rw[lS]
 constructor <;> grind
theorem sX {y:Rat} (h0: -(79/100)<=y) (h1:y<=79/100): -53<=a6 y/\a6 y<=53:=by
 have r:=jY (y:=y) (by grind) (by grind)
 have e:=gM (y:=y) (by grind) (by grind)
 have a:79/100<sof 53:=by decide+kernel
 have b:sof (-53)< -(79/100):=by decide+kernel
 constructor
 ·refine Rat.not_lt.1 fun q=>?_
  have:=ld r.1 q (by rw[r90];grind)
  grind
 ·refine Rat.not_lt.1 fun q=>?_
  have:=ld (by rw[show((-90:Int):Rat)= -90 from rfl];grind) q r.2
  grind
theorem j5 (t:Rat) {lat:Rat} (h0: -60<=lat) (h1:lat<=60): -53<=dW t lat/\dW t lat<=53:=by
 have q:=kA t h0 h1
 exact sX (y:= -(quo t lat)) (by grind) (by grind)
def gY (k:Int):Int:=max (-15) (min k 15)
def S15 (k:Int):Int:=spk (gY k)-131*gY k
theorem IB:∀n:Nat,n<30->131<=spk ((n:Int)-15+1)-spk ((n:Int)-15):=by decide+kernel
theorem E9 (k:Int):S15 k<=S15 (k+1):=by
 unfold S15
 by_cases h: -15<=k/\k<15
 ·have e1:gY k=k:=by unfold gY;omega
  have e2:gY (k+1)=k+1:=by unfold gY;omega
  have:=IB (k+15).toNat (by omega)
  rw[show(((k+15).toNat :Nat):Int)=k+15 by omega,show k+15-15=k by omega] at this
  rw[e1,e2];omega
 ·have e:gY (k+1)=gY k:=by unfold gY;omega
  rw[e];exact Int.le_refl _
theorem vk {y:Rat} (h0:((-15:Int):Rat)<=y) (h1:y<=((15:Int):Rat)):lin S15 y=lin spk y-131*y:=by
 have f0:=Cs h0
 have f1:y.floor<=15:=by
  have:=Rat.floor_monotone h1
  rwa[Rat.floor_intCast] at this
 have e1:gY y.floor=y.floor:=by unfold gY;omega
 by_cases h:y.floor<15
 ·have e2:gY (y.floor+1)=y.floor+1:=by unfold gY;omega
  unfold lin S15
  rw[e1,e2]
  simp only [Rat.intCast_sub,Rat.intCast_mul,Rat.intCast_add,Rat.intCast_one]
  rw[show((131:Int):Rat)=131 from rfl]
  grind
 ·have e3:y.floor=15:=by omega
  have e4:y=((15:Int):Rat):=by
   have:=cY y;rw[e3] at this;grind
  rw[e4,fG,fG]
  decide+kernel
theorem xZ {y z:Rat} (h0:((-15:Int):Rat)<=y) (h:y<=z) (h1:z<=((15:Int):Rat)):131*(z-y)<=lin spk z-lin spk y:=by
 have:=ss E9 h
 rw[vk h0 (by grind),vk (by grind) h1] at this
 grind
theorem nP {y z:Rat} (y0: -(79/100)<=y) (y1:y<=79/100) (z0: -(79/100)<=z) (z1:z<=79/100):(a6 z-a6 y).abs <=3438*15/524*(z-y).abs :=by
 have key:∀ {y z:Rat}, -(79/100)<=y->y<=z->z<=79/100->0<=a6 z-a6 y/\a6 z-a6 y<=3438*15/524*(z-y):=by
  intro y z y0 h z1
  have a:=sX (y:=y) y0 (by grind)
  have b:=sX (y:=z) (by grind) z1
  have ey:=gM (y:=y) (by grind) (by grind)
  have ez:=gM (y:=z) (by grind) (by grind)
  have hp:a6 y<=a6 z:=Rat.not_lt.1 fun q=>by
   have:=ld (by rw[show((-90:Int):Rat)= -90 from rfl];grind) q (by rw[r90];grind)
   grind
  have s:=xZ (y:=a6 y/wd) (z:=a6 z/wd) (by rw[dH,show((-15:Int):Rat)= -15 from rfl];grind) (by rw[dH];grind) (by rw[dH,show((15:Int):Rat)=15 from rfl];grind)
  rw[<-fH,<-fH,ey,ez,dX,dH] at s
  constructor <;> grind
 rcases Rat.le_total (a:=y) (b:=z) with h|h
 ·have k:=key y0 h z1
  rw[Rat.abs_of_nonneg k.1,Rat.abs_of_nonneg (x:=z-y) (by grind)]
  exact k.2
 ·have k:=key z0 h y1
  rw[Rat.abs_of_nonpos (by grind),Rat.abs_of_nonpos (x:=z-y) (by grind)]
  grind
theorem zU (t u:Rat):(bz (hV u)-bz (hV t)).abs <=900/524*(hV u-hV t).abs :=by
 have a:=my t
 have b:=my u
 rw[iz] at a b
 have l:=nP (y:=hV t) (z:=hV u) (by grind) (by grind) (by grind) (by grind)
 have s:=kg (a6 (hV u)+((90:Int):Rat)) (a6 (hV t)+((90:Int):Rat))
 rw[show a6 (hV u)+((90:Int):Rat)-(a6 (hV t)+((90:Int):Rat))=a6 (hV u)-a6 (hV t) by grind,show((60:Int):Rat)/((3438:Int):Rat)=60/3438 by decide+kernel] at s
 unfold bz
 grind
theorem iA (x y:Rat):(x*y).abs =x.abs*y.abs:=by
 rcases Rat.le_total (a:=0) (b:=x) with hx|hx <;> rcases Rat.le_total (a:=0) (b:=y) with hy|hy
 ·rw[Rat.abs_of_nonneg hx,Rat.abs_of_nonneg hy,Rat.abs_of_nonneg (Rat.mul_nonneg hx hy)]
 ·have m:=Rat.mul_nonneg hx (b:= -y) (by grind)
  rw[Rat.abs_of_nonneg hx,Rat.abs_of_nonpos hy,Rat.abs_of_nonpos (by grind)];grind
 ·have m:=Rat.mul_nonneg (a:= -x) (by grind) hy
  rw[Rat.abs_of_nonpos hx,Rat.abs_of_nonneg hy,Rat.abs_of_nonpos (by grind)];grind
 ·have m:=Rat.mul_nonneg (a:= -x) (b:= -y) (by grind) (by grind)
  rw[Rat.abs_of_nonpos hx,Rat.abs_of_nonpos hy,Rat.abs_of_nonneg (by grind)];grind
theorem GL (t u:Rat):(hV u/bz (hV u)-hV t/bz (hV t)).abs <=21/10*(hV u-hV t).abs :=by
 have a:=my t
 have b:=my u
 have ct:=kC a.1 a.2
 have cu:=kC b.1 b.2
 have l:=zU t u
 rw[iz] at a b
 generalize bz (hV u)=p at*
 generalize bz (hV t)=q at*
 generalize hV u=y at*
 generalize hV t=x at*
 have hp:p≠0:=by grind
 have hq:q≠0:=by grind
 have pq:0<p*q:=Rat.mul_pos (by grind) (by grind)
 have e:y/p-x/q=((y-x)*q-x*(p-q))/(p*q):=by
  rw[Rat.div_def,Rat.div_def,Rat.div_def,Rat.inv_mul_rev]
  grind
 have pq2:81/100<=p*q:=by
  have:=Rat.mul_nonneg (a:=p-9/10) (b:=q-9/10) (by grind) (by grind)
  grind
 have n1:((y-x)*q).abs <=(y-x).abs :=by
  rw[iA,Rat.abs_of_nonneg (x:=q) (by grind)]
  have:=Rat.mul_nonneg (a:=(y-x).abs) (b:=1-q) Rat.abs_nonneg (by grind)
  grind
 have n2:(x*(p-q)).abs <=1397/3438*(900/524)*(y-x).abs :=by
  rw[iA]
  have hx:x.abs<=1397/3438:=dG (by grind) (by grind)
  have:=Rat.mul_nonneg (a:=1397/3438-x.abs) (b:=(p-q).abs) (by grind) Rat.abs_nonneg
  grind
 have n:((y-x)*q-x*(p-q)).abs <=17/10*(y-x).abs :=by
  have k:=oI ((y-x)*q)
  have k2:=oI (x*(p-q))
  have k3:(0:Rat)<=(y-x).abs :=Rat.abs_nonneg
  exact dG (by grind) (by grind)
 have m:=br n
 rw[e]
 have k3:(0:Rat)<=(y-x).abs :=Rat.abs_nonneg
 have w:=Rat.mul_nonneg (a:=(y-x).abs) (b:=p*q-81/100) k3 (by grind)
 exact dG (f6 pq (by grind)) (gj pq (by grind))
theorem Aq (t:Rat):(sof (cg (t+((1:Int):Rat)))-sof (cg t)).abs <=60/3438*(104/100):=by
 have s:=Ek t
 have pr:=br (AN t)
 unfold cg
 rw[lk,lk]
 generalize hm:((360:Int):Rat)*(((1:Int):Rat)/pyr)-(cj (t+((1:Int):Rat))-cj t)=m at s
 have hu:∃j:Int,cV (t+((1:Int):Rat))=cV t+m+((360:Int):Rat)*((j:Int):Rat):=by
  have e:=s.1
  rw[eF bQ] at e
  refine⟨((cV (t+((1:Int):Rat))-cV t)/((360:Int):Rat)).floor,?_⟩
  rw[Rat.intCast_neg] at e
  grind
 obtain⟨j,hu⟩:=hu
 have l:=kg (cV t+m-cM (t+((1:Int):Rat))) (cV t-cM t)
 rw[hu,show cV t+m+((360:Int):Rat)*((j:Int):Rat)-cM (t+((1:Int):Rat))=(cV t+m-cM (t+((1:Int):Rat)))+((360:Int):Rat)*((j:Int):Rat) by grind,gV]
 rw[show((60:Int):Rat)/((3438:Int):Rat)=60/3438 by decide+kernel] at l
 have d:(cV t+m-cM (t+((1:Int):Rat))-(cV t-cM t)).abs <=104/100:=dG (by grind) (by grind)
 grind
theorem sm (t:Rat) {lat:Rat} (h0: -60<=lat) (h1:lat<=60):(dW (t+((1:Int):Rat)) lat-dW t lat).abs <=27/10:=by
 have d:=Aq t
 have q:=kA t h0 h1
 have q':=kA (t+((1:Int):Rat)) h0 h1
 have hl:=GL t (t+((1:Int):Rat))
 have ta:=sM h0 h1
 have hh:(hV (t+((1:Int):Rat))-hV t).abs <=1397/3438*(60/3438*(104/100)):=by
  unfold hV
  rw[show obl*sof (cg (t+((1:Int):Rat)))-obl*sof (cg t)=obl*(sof (cg (t+((1:Int):Rat)))-sof (cg t)) by grind,iA,iz,Rat.abs_of_nonneg (x:=1397/3438) (by grind)]
  grind
 have e:(quo (t+((1:Int):Rat)) lat-quo t lat).abs <=2978/1719*(21/10*(1397/3438*(60/3438*(104/100)))):=by
  rw[lS,lS,show sof lat/sof (lat+((90:Int):Rat))*(hV (t+((1:Int):Rat))/bz (hV (t+((1:Int):Rat))))-sof lat/sof (lat+((90:Int):Rat))*(hV t/bz (hV t))=sof lat/sof (lat+((90:Int):Rat))*(hV (t+((1:Int):Rat))/bz (hV (t+((1:Int):Rat)))-hV t/bz (hV t)) by grind,iA]
  have ka:(sof lat/sof (lat+((90:Int):Rat))).abs <=2978/1719:=dG ta.1 ta.2
  generalize (sof lat/sof (lat+((90:Int):Rat))).abs =x at*
  have kb:(0:Rat)<=(hV (t+((1:Int):Rat))/bz (hV (t+((1:Int):Rat)))-hV t/bz (hV t)).abs :=Rat.abs_nonneg
  generalize (hV (t+((1:Int):Rat))/bz (hV (t+((1:Int):Rat)))-hV t/bz (hV t)).abs =y at*
  have m:=Rat.mul_nonneg (a:=2978/1719-x) (b:=y) (by grind) kb
  grind
 have a:=nP (y:= -(quo t lat)) (z:= -(quo (t+((1:Int):Rat)) lat)) (by grind) (by grind) (by grind) (by grind)
 rw[show -(quo (t+((1:Int):Rat)) lat)- -(quo t lat)= -(quo (t+((1:Int):Rat)) lat-quo t lat) by grind,show(-(quo (t+((1:Int):Rat)) lat-quo t lat)).abs =(quo (t+((1:Int):Rat)) lat-quo t lat).abs by unfold Rat.abs;split <;> split <;> grind] at a
 show(a6 (-(quo (t+((1:Int):Rat)) lat))-a6 (-(quo t lat))).abs <=27/10
 grind
def jC (x:Rat):Int:=spk (pk x+1)-spk (pk x)
def jR (t:Rat):Rat:=((14:Int):Rat)/((360:Int):Rat)-(sof (mof t pay)).abs *(((1:Int):Rat)/((1080:Int):Rat))
def dI (t:Rat):Rat:=((360:Int):Rat)/pyr*(((1:Int):Rat)-((jC (mof t pay):Int):Rat)/((225:Int):Rat)*jR t)
def gI (k:Int):Int:=if k%6=0\/k%6=5 then 1670 else if k%6=1\/k%6=4 then 1795 else 1935
def eN (t:Rat):Rat:=((gI (prt (cg t) 12):Int):Rat)/((1800:Int):Rat)
def fl (t:Rat):Rat:=dI t*(((1:Int):Rat)/((360:Int):Rat))*(sof (mof t pay)*(((573:Int):Rat)/((10:Int):Rat))*jR t*(((1:Int):Rat)/((360:Int):Rat)))*pyr
def kap:Rat:=((1577917828:Int):Rat)/((1582237828:Int):Rat)*(((1:Int):Rat)/((360:Int):Rat))
def jJ (lon:Rat):Rat:=(((45461:Int):Rat)/((600:Int):Rat)-lon)*(((1:Int):Rat)/((360:Int):Rat))
def bn (t lat lon:Rat) (qd sg:Int):Rat:=t+((qd:Int):Rat)/((4:Int):Rat)+(jJ lon-fl t)+(dI t*eN t*(((qd:Int):Rat)/((4:Int):Rat))+((sg:Int):Rat)*dW t lat)*kap
def bK (x:Rat):Rat:=(((x*((1048576:Int):Rat)).floor :Int):Rat)*(((1:Int):Rat)/((1048576:Int):Rat))
theorem bW (x:Rat):x-1/1000000<=bK x/\bK x<=x:=by
 have a:=cY (x*((1048576:Int):Rat))
 have b:=dr (x*((1048576:Int):Rat))
 unfold bK
 rw[show((1:Int):Rat)/((1048576:Int):Rat)=1/1048576 by decide+kernel]
 rw[show((1048576:Int):Rat)=1048576 from rfl] at*
 constructor <;> grind
theorem Ed (t:Rat):13/360<=jR t/\jR t<=14/360:=by
 have b:=dN (mof t pay)
 have c:(sof (mof t pay)).abs <=1:=dG b.1 b.2
 have d:(0:Rat)<=(sof (mof t pay)).abs :=Rat.abs_nonneg
 unfold jR
 rw[show((14:Int):Rat)/((360:Int):Rat)=14/360 by decide+kernel,show((1:Int):Rat)/((1080:Int):Rat)=1/1080 by decide+kernel]
 constructor <;> grind
theorem Fx (x:Rat): -1<=((jC x:Int):Rat)/((225:Int):Rat)/\((jC x:Int):Rat)/((225:Int):Rat)<=1:=by
 have s:=gU (pk x)
 have a:=bT s.1
 have b:=bT s.2
 rw[show((-225:Int):Rat)= -225 from rfl] at a
 rw[show((225:Int):Rat)=225 from rfl] at b ⊢
 unfold jC
 exact⟨f6 (by grind) (by grind),gj (by grind) (by grind)⟩
theorem oR (t:Rat):947/1000<=dI t/\dI t<=1025/1000:=by
 have p:=Ed t
 have s:=Fx (mof t pay)
 have m:=dL (b:=14/360) (a:=1) (x:=((jC (mof t pay):Int):Rat)/((225:Int):Rat)) (y:=jR t) (by grind) (by grind) s.1 s.2 (by grind) p.2
 have k1:985/1000<=((360:Int):Rat)/pyr:=by decide+kernel
 have k2:986/1000≥((360:Int):Rat)/pyr:=by decide+kernel
 have k3:9856/10000<=((360:Int):Rat)/pyr:=by decide+kernel
 unfold dI
 rw[Rat.intCast_one]
 generalize ((jC (mof t pay):Int):Rat)/((225:Int):Rat)*jR t=y at*
 generalize ((360:Int):Rat)/pyr=c at*
 have u:=Rat.mul_nonneg (a:=c-9856/10000) (b:=1-y) (by grind) (by grind)
 have v:=Rat.mul_nonneg (a:=986/1000-c) (b:=1-y) (by grind) (by grind)
 constructor <;> grind
theorem G3 (t:Rat):1670/1800<=eN t/\eN t<=1935/1800:=by
 have h:1670<=gI (prt (cg t) 12)/\gI (prt (cg t) 12)<=1935:=by unfold gI;split <;> (try split) <;> omega
 have a:=bT h.1
 have b:=bT h.2
 rw[show((1670:Int):Rat)=1670 from rfl] at a
 rw[show((1935:Int):Rat)=1935 from rfl] at b
 unfold eN
 rw[show((1800:Int):Rat)=1800 from rfl]
 exact⟨f6 (by grind) (by grind),gj (by grind) (by grind)⟩
theorem eE (t:Rat):87/100<=dI t*eN t/\dI t*eN t<=111/100:=by
 have m:=oR t
 have r:=G3 t
 have u:=Rat.mul_nonneg (a:=dI t-947/1000) (b:=eN t) (by grind) (by grind)
 have v:=Rat.mul_nonneg (a:=1025/1000-dI t) (b:=eN t) (by grind) (by grind)
 constructor <;> grind
theorem j3:277/100000<=kap/\kap<=27703/10000000:=by decide+kernel
theorem Fb (t:Rat):sof (mof t pay)*(((573:Int):Rat)/((10:Int):Rat))*jR t=573/10*epi (sof (mof t pay)) ssz sch:=by
 unfold jR epi
 rw[oO.1,oO.2.1,show((573:Int):Rat)/((10:Int):Rat)=573/10 by decide+kernel,show((14:Int):Rat)/((360:Int):Rat)=7/180 by decide+kernel,show((1:Int):Rat)/((1080:Int):Rat)=1/1080 by decide+kernel]
 grind
theorem rJ (t:Rat):fl t=dI t*(epi (sof (mof t pay)) ssz sch*(573/10*(1/360)*(1/360)*pyr)):=by
 unfold fl
 rw[Fb,show((1:Int):Rat)/((360:Int):Rat)=1/360 by decide+kernel];grind
theorem zD:16/100<=573/10*(1/360)*(1/360)*pyr/\573/10*(1/360)*(1/360)*pyr<=162/1000:=by decide+kernel
theorem CS (t:Rat): -(41/1080)<=epi (sof (mof t pay)) ssz sch/\epi (sof (mof t pay)) ssz sch<=41/1080:=by
 have b:=dN (mof t pay)
 have e:=lQ (s:=ssz) (c:=sch) b.1 b.2 (by decide+kernel) (by decide+kernel) (by decide+kernel)
 have k:ssz*(1-sch)=41/1080:=by decide+kernel
 rw[k] at e;exact e
theorem ju (t:Rat): -(64/10000)<=fl t/\fl t<=64/10000:=by
 have m:=oR t
 have e:=CS t
 have c:=zD
 have n:=dL (a:=41/1080) (b:=162/1000) (x:=epi (sof (mof t pay)) ssz sch) (y:=573/10*(1/360)*(1/360)*pyr) (by grind) (by grind) e.1 e.2 (by grind) c.2
 have o:=dL (a:=1025/1000) (b:=41/1080*(162/1000)) (x:=dI t) (by grind) (by grind) (by grind) m.2 n.1 n.2
 rw[rJ]
 constructor <;> grind
theorem EG (t:Rat):(epi (sof (mof (t+((1:Int):Rat)) pay)) ssz sch-epi (sof (mof t pay)) ssz sch).abs <=7/180*(60/3438*(986/1000)):=by
 have l:=kg (((360:Int):Rat)*aW (t+((1:Int):Rat)) pay) (((360:Int):Rat)*aW t pay)
 rw[<-mQ gh,<-mQ gh,cF,show((60:Int):Rat)/((3438:Int):Rat)=60/3438 by decide+kernel] at l
 have d:(((360:Int):Rat)*(aW t pay+((1:Int):Rat)/pay)-((360:Int):Rat)*aW t pay).abs <=986/1000:=by
  rw[show((360:Int):Rat)*(aW t pay+((1:Int):Rat)/pay)-((360:Int):Rat)*aW t pay=((360:Int):Rat)*(((1:Int):Rat)/pay) by grind]
  decide+kernel
 have bt:=dN (mof t pay)
 have bu:=dN (mof (t+((1:Int):Rat)) pay)
 have s1:=oO.1
 have s2:=oO.2.1
 generalize sof (mof (t+((1:Int):Rat)) pay)=b at*
 generalize sof (mof t pay)=x at*
 have n:(b-x).abs <=60/3438*(986/1000):=by grind
 rcases Rat.le_total (a:=x) (b:=b) with h|h
 ·have e:=i6 (s:=ssz) (c:=sch) bt.1 bu.2 h (by decide+kernel) (by decide+kernel) (by decide+kernel)
  rw[Rat.abs_of_nonneg (x:=b-x) (by grind)] at n
  rw[Rat.abs_of_nonneg e.1]
  rw[s1] at e ⊢
  grind
 ·have e:=i6 (s:=ssz) (c:=sch) bu.1 bt.2 h (by decide+kernel) (by decide+kernel) (by decide+kernel)
  rw[Rat.abs_of_nonpos (x:=b-x) (by grind)] at n
  rw[Rat.abs_of_nonpos (by grind)]
  rw[s1] at e ⊢
  grind
theorem uL (t:Rat):(fl (t+((1:Int):Rat))-fl t).abs <=1/1000:=by
 have m:=oR t
 have m':=oR (t+((1:Int):Rat))
 have e:=CS t
 have d:=br (EG t)
 have c:=zD
 rw[rJ,rJ]
 generalize epi (sof (mof (t+((1:Int):Rat)) pay)) ssz sch=b at*
 generalize epi (sof (mof t pay)) ssz sch=x at*
 generalize dI (t+((1:Int):Rat))=n at*
 generalize dI t=o at*
 generalize 573/10*(1/360)*(1/360)*pyr=k at*
 have u:=dL (a:=1025/1000) (b:=7/180*(60/3438*(986/1000))) (x:=n) (y:=b-x) (by grind) (by grind) (by grind) (by grind) (by grind) (by grind)
 have v:=dL (a:=78/1000) (b:=41/1080) (x:=n-o) (y:=x) (by grind) (by grind) (by grind) (by grind) e.1 e.2
 have q:=dL (a:=1025/1000*(7/180*(60/3438*(986/1000)))+78/1000*(41/1080)) (b:=162/1000) (x:=n*(b-x)+(n-o)*x) (y:=k) (by grind) (by grind) (by grind) (by grind) (by grind) (by grind)
 rw[show n*(b*k)-o*(x*k)=(n*(b-x)+(n-o)*x)*k by grind]
 exact dG (by grind) (by grind)
theorem zi (t:Rat) {lat:Rat} (lon:Rat) (h0: -60<=lat) (h1:lat<=60):985/1000<=bn (t+((1:Int):Rat)) lat lon 1 1-bn t lat lon 1 1/\bn (t+((1:Int):Rat)) lat lon 1 1-bn t lat lon 1 1<=1015/1000:=by
 have e:=br (uL t)
 have d:=br (sm t h0 h1)
 have s:=eE t
 have s':=eE (t+((1:Int):Rat))
 have k:=j3
 unfold bn
 rw[show((1:Int):Rat)/((4:Int):Rat)=1/4 by decide+kernel,Rat.intCast_one] at*
 generalize dW (t+1) lat=d2 at*
 generalize dW t lat=d1 at*
 generalize dI (t+1)*eN (t+1)=s2 at*
 generalize dI t*eN t=s1 at*
 generalize fl (t+1)=e2 at*
 generalize fl t=e1 at*
 have m:=dL (a:=1/4*(111/100-87/100)+27/10) (b:=27703/10000000) (x:=(s2*(1/4)+1*d2)-(s1*(1/4)+1*d1)) (y:=kap) (by grind) (by grind) (by grind) (by grind) (by grind) k.2
 constructor <;> grind
theorem EM (y:Rat):a6 (-y)= -a6 y:=by
 by_cases h:y<0
 ·rw[<-qe h];grind
 ·by_cases h2:y=0
  ·subst h2;decide+kernel
  ·have:=qe (x:= -y) (by grind)
   rw[show- -y=y by grind] at this
   exact this.symm
theorem iG (lat:Rat):sof (-lat+((90:Int):Rat))=sof (lat+((90:Int):Rat)):=by
 have e:=tq (lat+((90:Int):Rat))
 rw[show((180:Int):Rat)-(lat+((90:Int):Rat))= -lat+((90:Int):Rat) by rw[show((180:Int):Rat)=180 from rfl,r90];grind] at e
 exact e
end Go.Proofs.YtgdpkknapcgcbaaGreatDoor
