import Derived.Test.YtgdpkknapcgcbaaGreatDoorKA24
namespace Go.Proofs.YtgdpkknapcgcbaaGreatDoor
open Go.RowKit
set_option maxRecDepth 100000
set_option linter.unusedVariables false
set_option maxHeartbeats 8000000
def kli:Rat:=((-1132959:Int):Rat)
def iy (t:Rat):Rat:=(t-kli)*(((600:Int):Rat)/((1577917828:Int):Rat))-((1:Int):Rat)/((4:Int):Rat)
def zd (t:Rat):Rat:=cO (iy t) (((-1:Int):Rat)/((2:Int):Rat)) (((1:Int):Rat)/((2:Int):Rat))
def eJ (t:Rat):Rat:=((27:Int):Rat)-((108:Int):Rat)*(zd t).abs
def bC (t:Rat):Rat:=rmod (be t-eJ t) ((360:Int):Rat)
def obl:Rat:=((1397:Int):Rat)/((3438:Int):Rat)
def hV (t:Rat):Rat:=obl*sof (bC t)
def dz (h:Rat):Rat:=sof (a7 h+((90:Int):Rat))
def eV (t lat:Rat):Rat:=hV t*sof lat/sof (lat+((90:Int):Rat))
def eK (t lat:Rat):Rat:=a7 (-(eV t lat/dz (hV t)))
theorem jV:obl=1397/3438:=by decide+kernel
theorem r90:((90:Int):Rat)=90:=rfl
theorem od:(((-1:Int):Rat)/((2:Int):Rat))= -1/2/\(((1:Int):Rat)/((2:Int):Rat))=1/2:=by decide+kernel
theorem C8 (y:Rat) (m:Int):(cO y (-1/2) (1/2)).abs <=(y-((m:Int):Rat)).abs :=by
 have l:=Ap (x:=y) (a:= -1/2) (b:=1/2) (by grind)
 have u:=yP (x:=y) (a:= -1/2) (b:=1/2) (by grind)
 obtain⟨n,e⟩:∃n:Int,cO y (-1/2) (1/2)=y-((n:Int):Rat):=by
  refine⟨((y- -1/2)/(1/2- -1/2)).floor,?_⟩
  unfold cO
  rw[if_neg (by grind)]
  unfold rmod
  rw[if_neg (by grind)]
  grind
 rw[e] at l u ⊢
 have h:m=n\/m<=n-1\/n+1<=m:=by omega
 rcases h with h|h|h
 ·rw[h];exact Rat.le_refl
 ·have:=cf h
  rw[Rat.intCast_sub,Rat.intCast_one] at this
  unfold Rat.abs;split <;> split <;> grind
 ·have:=cf h
  rw[Rat.intCast_add,Rat.intCast_one] at this
  unfold Rat.abs;split <;> split <;> grind
theorem yg (y d:Rat):(cO (y+d) (-1/2) (1/2)).abs <=(cO y (-1/2) (1/2)).abs +d.abs:=by
 obtain⟨n,e⟩:∃n:Int,cO y (-1/2) (1/2)=y-((n:Int):Rat):=by
  refine⟨((y- -1/2)/(1/2- -1/2)).floor,?_⟩
  unfold cO
  rw[if_neg (by grind)]
  unfold rmod
  rw[if_neg (by grind)]
  grind
 have h:=C8 (y+d) n
 have g:(y+d-((n:Int):Rat)).abs <=(y-((n:Int):Rat)).abs +d.abs:=by
  unfold Rat.abs;split <;> split <;> split <;> grind
 rw[e];grind
theorem Eh (t:Rat):(eJ (t+((1:Int):Rat))-eJ t).abs <=1/1000:=by
 have e:iy (t+((1:Int):Rat))=iy t+((600:Int):Rat)/((1577917828:Int):Rat):=by unfold iy;rw[Rat.intCast_one];grind
 have e':iy t=iy (t+((1:Int):Rat))+ -(((600:Int):Rat)/((1577917828:Int):Rat)):=by rw[e];grind
 have k:(((600:Int):Rat)/((1577917828:Int):Rat)).abs <=1/200000:=by decide+kernel
 have k':(-(((600:Int):Rat)/((1577917828:Int):Rat))).abs <=1/200000:=by decide+kernel
 have a:=yg (iy t) (((600:Int):Rat)/((1577917828:Int):Rat))
 have b:=yg (iy (t+((1:Int):Rat))) (-(((600:Int):Rat)/((1577917828:Int):Rat)))
 rw[<-e] at a
 rw[<-e'] at b
 unfold eJ zd
 rw[od.1,od.2,show((108:Int):Rat)=108 from rfl,show((27:Int):Rat)=27 from rfl]
 exact gy (by grind) (by grind)
theorem qU {p q:Rat} (h1:((-90:Int):Rat)<=p) (h2:p<=q) (h3:q<=((90:Int):Rat)):sof p<=sof q:=by
 by_cases e:p=q
 ·rw[e];exact Rat.le_refl
 ·exact Rat.le_of_lt (mA h1 (by grind) h3)
theorem tQ (x:Rat):sof (rmod x ((360:Int):Rat))=sof x:=by rw[fM aG,mI]
theorem wY {y:Rat} (h0: -1<=y) (h1:y<=1):((-90:Int):Rat)<=a7 y/\a7 y<=((90:Int):Rat):=by
 have h:=zA (h:=y*((3438:Int):Rat)) (by rw[dY,show((-3438:Int):Rat)= -3438 from rfl];grind) (by rw[dY];grind)
 unfold a7
 rw[dQ,r90,show((-90:Int):Rat)= -90 from rfl]
 have a:=h.1
 have b:=h.2.1
 rw[show((-24:Int):Rat)= -24 from rfl] at a
 rw[show((24:Int):Rat)=24 from rfl] at b
 constructor <;> grind
theorem l6 {y:Rat} (h0: -1<=y) (h1:y<=1):sof (a7 y)=y:=xR h0 h1
theorem Hx {lat:Rat} (h0: -60<=lat) (h1:lat<=60): -(2978/3438)<=sof lat/\sof lat<=2978/3438:=by
 have a:sof 60=2978/3438:=by decide+kernel
 have b:sof (-60)= -(2978/3438):=by decide+kernel
 rw[<-a]
 have b': -sof 60=sof (-60):=by rw[a,b]
 rw[b']
 exact⟨qU (by rw[show((-90:Int):Rat)= -90 from rfl];grind) h0 (by rw[r90];grind),qU (by rw[show((-90:Int):Rat)= -90 from rfl];grind) h1 (by rw[r90];grind)⟩
theorem Gm {lat:Rat} (h0: -60<=lat) (h1:lat<=60):1/2<=sof (lat+((90:Int):Rat)):=by
 have a:sof 30=1/2:=by decide+kernel
 rw[<-a]
 by_cases h:lat<=0
 ·exact qU (by rw[show((-90:Int):Rat)= -90 from rfl];grind) (by rw[r90];grind) (by rw[r90];grind)
 ·have e:=Ew (lat+((90:Int):Rat))
  rw[show((180:Int):Rat)-(lat+((90:Int):Rat))=90-lat by rw[show((180:Int):Rat)=180 from rfl,r90];grind] at e
  rw[<-e]
  exact qU (by rw[show((-90:Int):Rat)= -90 from rfl];grind) (by grind) (by rw[r90];grind)
theorem rZ {h:Rat} (h0: -obl<=h) (h1:h<=obl):9/10<=dz h/\dz h<=1:=by
 rw[jV] at h0 h1
 have e:=l6 (y:=h) (by grind) (by grind)
 have c:=BF (a7 h)
 have n:=(EC (a7 h)).2
 rw[e] at c n
 have b:=gw (a7 h+((90:Int):Rat))
 have p:0<=dz h:=by
  unfold dz
  rw[n]
  exact Rat.abs_nonneg
 refine⟨?_,b.2⟩
 unfold dz at p ⊢
 generalize sof (a7 h+((90:Int):Rat))=x at*
 have k:=eU c
 rw[show((1:Int):Rat)/((500:Int):Rat)=1/500 by decide+kernel,Rat.intCast_one] at k
 refine Rat.not_lt.1 fun q=>?_
 have m:=Rat.mul_nonneg (a:=9/10-x) (b:=9/10+x) (by grind) (by grind)
 have m2:=Rat.mul_nonneg (a:=1397/3438-h) (b:=1397/3438+h) (by grind) (by grind)
 grind
theorem ow (t:Rat): -obl<=hV t/\hV t<=obl:=by
 have b:=gw (bC t)
 unfold hV
 rw[jV]
 constructor <;> grind
def quo (t lat:Rat):Rat:=eV t lat/dz (hV t)
theorem uU (t lat:Rat):quo t lat=sof lat/sof (lat+((90:Int):Rat))*(hV t/dz (hV t)):=by
 unfold quo eV
 rw[Rat.div_def,Rat.div_def,Rat.div_def,Rat.div_def];grind
theorem jk {x c b:Rat} (hc:0<c) (h:x<=b*c):x/c<=b:=Rat.not_lt.1 fun q=>by rw[Rat.lt_div_iff hc] at q;grind
theorem jq {x c b:Rat} (hc:0<c) (h:b*c<=x):b<=x/c:=Rat.not_lt.1 fun q=>by rw[Rat.div_lt_iff hc] at q;grind
theorem BL {lat:Rat} (h0: -60<=lat) (h1:lat<=60): -(2978/1719)<=sof lat/sof (lat+((90:Int):Rat))/\sof lat/sof (lat+((90:Int):Rat))<=2978/1719:=by
 have s:=Hx h0 h1
 have c:=Gm h0 h1
 exact⟨jq (by grind) (by grind),jk (by grind) (by grind)⟩
theorem Ll (t:Rat): -(1397/3438*(10/9))<=hV t/dz (hV t)/\hV t/dz (hV t)<=1397/3438*(10/9):=by
 have h:=ow t
 have c:=rZ h.1 h.2
 rw[jV] at h
 exact⟨jq (by grind) (by grind),jk (by grind) (by grind)⟩
theorem eE {x y a b:Rat} (ha:0<=a) (hb:0<=b) (x0: -a<=x) (x1:x<=a) (y0: -b<=y) (y1:y<=b): -(a*b)<=x*y/\x*y<=a*b:=by
 have m1:=Rat.mul_nonneg (a:=a-x) (b:=b+y) (by grind) (by grind)
 have m2:=Rat.mul_nonneg (a:=a+x) (b:=b-y) (by grind) (by grind)
 have m3:=Rat.mul_nonneg (a:=a-x) (b:=b-y) (by grind) (by grind)
 have m4:=Rat.mul_nonneg (a:=a+x) (b:=b+y) (by grind) (by grind)
 constructor <;> grind
theorem qO (t:Rat) {lat:Rat} (h0: -60<=lat) (h1:lat<=60): -(79/100)<=quo t lat/\quo t lat<=79/100:=by
 have a:=BL h0 h1
 have b:=Ll t
 have m:=eE (by grind) (by grind) a.1 a.2 b.1 b.2
 rw[uU]
 constructor <;> grind
theorem uY {y:Rat} (h0: -(79/100)<=y) (h1:y<=79/100): -53<=a7 y/\a7 y<=53:=by
 have r:=wY (y:=y) (by grind) (by grind)
 have e:=l6 (y:=y) (by grind) (by grind)
 have a:79/100<sof 53:=by decide+kernel
 have b:sof (-53)< -(79/100):=by decide+kernel
 constructor
 ·refine Rat.not_lt.1 fun q=>?_
  have:=mA r.1 q (by rw[r90];grind)
  grind
 ·refine Rat.not_lt.1 fun q=>?_
  have:=mA (by rw[show((-90:Int):Rat)= -90 from rfl];grind) q r.2
  grind
theorem k7 (t:Rat) {lat:Rat} (h0: -60<=lat) (h1:lat<=60): -53<=eK t lat/\eK t lat<=53:=by
 have q:=qO t h0 h1
 exact uY (y:= -(quo t lat)) (by grind) (by grind)
def iL (k:Int):Int:=max (-15) (min k 15)
def S15 (k:Int):Int:=spk (iL k)-131*iL k
theorem Mw:∀n:Nat,n<30->131<=spk ((n:Int)-15+1)-spk ((n:Int)-15):=by decide+kernel
theorem Ik (k:Int):S15 k<=S15 (k+1):=by
 unfold S15
 by_cases h: -15<=k/\k<15
 ·have e1:iL k=k:=by unfold iL;omega
  have e2:iL (k+1)=k+1:=by unfold iL;omega
  have:=Mw (k+15).toNat (by omega)
  rw[show(((k+15).toNat :Nat):Int)=k+15 by omega,show k+15-15=k by omega] at this
  rw[e1,e2];omega
 ·have e:iL (k+1)=iL k:=by unfold iL;omega
  rw[e];exact Int.le_refl _
theorem wO {y:Rat} (h0:((-15:Int):Rat)<=y) (h1:y<=((15:Int):Rat)):lin S15 y=lin spk y-131*y:=by
 have f0:=Fg h0
 have f1:y.floor<=15:=by
  have:=Rat.floor_monotone h1
  rwa[Rat.floor_intCast] at this
 have e1:iL y.floor=y.floor:=by unfold iL;omega
 by_cases h:y.floor<15
 ·have e2:iL (y.floor+1)=y.floor+1:=by unfold iL;omega
  unfold lin S15
  rw[e1,e2]
  simp only [Rat.intCast_sub,Rat.intCast_mul,Rat.intCast_add,Rat.intCast_one]
  rw[show((131:Int):Rat)=131 from rfl]
  grind
 ·have e3:y.floor=15:=by omega
  have e4:y=((15:Int):Rat):=by
   have:=fl y;rw[e3] at this;grind
  rw[e4,gJ,gJ]
  decide+kernel
theorem zI {y z:Rat} (h0:((-15:Int):Rat)<=y) (h:y<=z) (h1:z<=((15:Int):Rat)):131*(z-y)<=lin spk z-lin spk y:=by
 have:=uL Ik h
 rw[wO h0 (by grind),wO (by grind) h1] at this
 grind
theorem uT {y z:Rat} (y0: -(79/100)<=y) (y1:y<=79/100) (z0: -(79/100)<=z) (z1:z<=79/100):(a7 z-a7 y).abs <=3438*15/524*(z-y).abs :=by
 have key:∀ {y z:Rat}, -(79/100)<=y->y<=z->z<=79/100->0<=a7 z-a7 y/\a7 z-a7 y<=3438*15/524*(z-y):=by
  intro y z y0 h z1
  have a:=uY (y:=y) y0 (by grind)
  have b:=uY (y:=z) (by grind) z1
  have ey:=l6 (y:=y) (by grind) (by grind)
  have ez:=l6 (y:=z) (by grind) (by grind)
  have hp:a7 y<=a7 z:=Rat.not_lt.1 fun q=>by
   have:=mA (by rw[show((-90:Int):Rat)= -90 from rfl];grind) q (by rw[r90];grind)
   grind
  have s:=zI (y:=a7 y/wd) (z:=a7 z/wd) (by rw[dQ,show((-15:Int):Rat)= -15 from rfl];grind) (by rw[dQ];grind) (by rw[dQ,show((15:Int):Rat)=15 from rfl];grind)
  rw[<-gO,<-gO,ey,ez,dY,dQ] at s
  constructor <;> grind
 rcases Rat.le_total (a:=y) (b:=z) with h|h
 ·have k:=key y0 h z1
  rw[Rat.abs_of_nonneg k.1,Rat.abs_of_nonneg (x:=z-y) (by grind)]
  exact k.2
 ·have k:=key z0 h y1
  rw[Rat.abs_of_nonpos (by grind),Rat.abs_of_nonpos (x:=z-y) (by grind)]
  grind
theorem Di (t u:Rat):(dz (hV u)-dz (hV t)).abs <=900/524*(hV u-hV t).abs :=by
 have a:=ow t
 have b:=ow u
 rw[jV] at a b
 have l:=uT (y:=hV t) (z:=hV u) (by grind) (by grind) (by grind) (by grind)
 have s:=ot (a7 (hV u)+((90:Int):Rat)) (a7 (hV t)+((90:Int):Rat))
 rw[show a7 (hV u)+((90:Int):Rat)-(a7 (hV t)+((90:Int):Rat))=a7 (hV u)-a7 (hV t) by grind,show((60:Int):Rat)/((3438:Int):Rat)=60/3438 by decide+kernel] at s
 unfold dz
 grind
theorem kH (x y:Rat):(x*y).abs =x.abs*y.abs:=by
 rcases Rat.le_total (a:=0) (b:=x) with hx|hx <;> rcases Rat.le_total (a:=0) (b:=y) with hy|hy
 ·rw[Rat.abs_of_nonneg hx,Rat.abs_of_nonneg hy,Rat.abs_of_nonneg (Rat.mul_nonneg hx hy)]
 ·have m:=Rat.mul_nonneg hx (b:= -y) (by grind)
  rw[Rat.abs_of_nonneg hx,Rat.abs_of_nonpos hy,Rat.abs_of_nonpos (by grind)];grind
 ·have m:=Rat.mul_nonneg (a:= -x) (by grind) hy
  rw[Rat.abs_of_nonpos hx,Rat.abs_of_nonneg hy,Rat.abs_of_nonpos (by grind)];grind
 ·have m:=Rat.mul_nonneg (a:= -x) (b:= -y) (by grind) (by grind)
  rw[Rat.abs_of_nonpos hx,Rat.abs_of_nonpos hy,Rat.abs_of_nonneg (by grind)];grind
theorem JE (t u:Rat):(hV u/dz (hV u)-hV t/dz (hV t)).abs <=21/10*(hV u-hV t).abs :=by
 have a:=ow t
 have b:=ow u
 have ct:=rZ a.1 a.2
 have cu:=rZ b.1 b.2
 have l:=Di t u
 rw[jV] at a b
 generalize dz (hV u)=p at*
 generalize dz (hV t)=q at*
 generalize hV u=y at*
 generalize hV t=x at*
 have hp:p≠0:=by grind
 have hq:q≠0:=by grind
 have pq:0<p*q:=Rat.mul_pos (by grind) (by grind)
 have e:y/p-x/q=((y-x)*q-x*(p-q))/(p*q):=by
  rw[Rat.div_def,Rat.div_def,Rat.div_def,Rat.inv_mul_rev]
  grind
 have pq2:81/100<=p*q:=by
  have:=Rat.mul_nonneg (a:=p-9/10) (b:=q-9/10) (by grind) (by grind)
  grind
 have n1:((y-x)*q).abs <=(y-x).abs :=by
  rw[kH,Rat.abs_of_nonneg (x:=q) (by grind)]
  have:=Rat.mul_nonneg (a:=(y-x).abs) (b:=1-q) Rat.abs_nonneg (by grind)
  grind
 have n2:(x*(p-q)).abs <=1397/3438*(900/524)*(y-x).abs :=by
  rw[kH]
  have hx:x.abs<=1397/3438:=gy (by grind) (by grind)
  have:=Rat.mul_nonneg (a:=1397/3438-x.abs) (b:=(p-q).abs) (by grind) Rat.abs_nonneg
  grind
 have n:((y-x)*q-x*(p-q)).abs <=17/10*(y-x).abs :=by
  have k:=qw ((y-x)*q)
  have k2:=qw (x*(p-q))
  have k3:(0:Rat)<=(y-x).abs :=Rat.abs_nonneg
  exact gy (by grind) (by grind)
 have m:=eU n
 rw[e]
 have k3:(0:Rat)<=(y-x).abs :=Rat.abs_nonneg
 have w:=Rat.mul_nonneg (a:=(y-x).abs) (b:=p*q-81/100) k3 (by grind)
 exact gy (jq pq (by grind)) (jk pq (by grind))
theorem Cw (t:Rat):(sof (bC (t+((1:Int):Rat)))-sof (bC t)).abs <=60/3438*(104/100):=by
 have s:=G7 t
 have pr:=eU (Eh t)
 unfold bC
 rw[tQ,tQ]
 generalize hm:((360:Int):Rat)*(((1:Int):Rat)/pyr)-(el (t+((1:Int):Rat))-el t)=m at s
 have hu:∃j:Int,be (t+((1:Int):Rat))=be t+m+((360:Int):Rat)*((j:Int):Rat):=by
  have e:=s.1
  rw[fM aG] at e
  refine⟨((be (t+((1:Int):Rat))-be t)/((360:Int):Rat)).floor,?_⟩
  rw[Rat.intCast_neg] at e
  grind
 obtain⟨j,hu⟩:=hu
 have l:=ot (be t+m-eJ (t+((1:Int):Rat))) (be t-eJ t)
 rw[hu,show be t+m+((360:Int):Rat)*((j:Int):Rat)-eJ (t+((1:Int):Rat))=(be t+m-eJ (t+((1:Int):Rat)))+((360:Int):Rat)*((j:Int):Rat) by grind,mI]
 rw[show((60:Int):Rat)/((3438:Int):Rat)=60/3438 by decide+kernel] at l
 have d:(be t+m-eJ (t+((1:Int):Rat))-(be t-eJ t)).abs <=104/100:=gy (by grind) (by grind)
 grind
theorem vi (t:Rat) {lat:Rat} (h0: -60<=lat) (h1:lat<=60):(eK (t+((1:Int):Rat)) lat-eK t lat).abs <=27/10:=by
 have d:=Cw t
 have q:=qO t h0 h1
 have q':=qO (t+((1:Int):Rat)) h0 h1
 have hl:=JE t (t+((1:Int):Rat))
 have ta:=BL h0 h1
 have hh:(hV (t+((1:Int):Rat))-hV t).abs <=1397/3438*(60/3438*(104/100)):=by
  unfold hV
  rw[show obl*sof (bC (t+((1:Int):Rat)))-obl*sof (bC t)=obl*(sof (bC (t+((1:Int):Rat)))-sof (bC t)) by grind,kH,jV,Rat.abs_of_nonneg (x:=1397/3438) (by grind)]
  grind
 have e:(quo (t+((1:Int):Rat)) lat-quo t lat).abs <=2978/1719*(21/10*(1397/3438*(60/3438*(104/100)))):=by
  rw[uU,uU,show sof lat/sof (lat+((90:Int):Rat))*(hV (t+((1:Int):Rat))/dz (hV (t+((1:Int):Rat))))-sof lat/sof (lat+((90:Int):Rat))*(hV t/dz (hV t))=sof lat/sof (lat+((90:Int):Rat))*(hV (t+((1:Int):Rat))/dz (hV (t+((1:Int):Rat)))-hV t/dz (hV t)) by grind,kH]
  have ka:(sof lat/sof (lat+((90:Int):Rat))).abs <=2978/1719:=gy ta.1 ta.2
  generalize (sof lat/sof (lat+((90:Int):Rat))).abs =x at*
  have kb:(0:Rat)<=(hV (t+((1:Int):Rat))/dz (hV (t+((1:Int):Rat)))-hV t/dz (hV t)).abs :=Rat.abs_nonneg
  generalize (hV (t+((1:Int):Rat))/dz (hV (t+((1:Int):Rat)))-hV t/dz (hV t)).abs =y at*
  have m:=Rat.mul_nonneg (a:=2978/1719-x) (b:=y) (by grind) kb
  grind
 have a:=uT (y:= -(quo t lat)) (z:= -(quo (t+((1:Int):Rat)) lat)) (by grind) (by grind) (by grind) (by grind)
 rw[show -(quo (t+((1:Int):Rat)) lat)- -(quo t lat)= -(quo (t+((1:Int):Rat)) lat-quo t lat) by grind,show(-(quo (t+((1:Int):Rat)) lat-quo t lat)).abs =(quo (t+((1:Int):Rat)) lat-quo t lat).abs by unfold Rat.abs;split <;> split <;> grind] at a
 show(a7 (-(quo (t+((1:Int):Rat)) lat))-a7 (-(quo t lat))).abs <=27/10
 grind
def ki (x:Rat):Int:=spk (pk x+1)-spk (pk x)
def kY (t:Rat):Rat:=((14:Int):Rat)/((360:Int):Rat)-(sof (mof t pay)).abs *(((1:Int):Rat)/((1080:Int):Rat))
def dW (t:Rat):Rat:=((360:Int):Rat)/pyr*(((1:Int):Rat)-((ki (mof t pay):Int):Rat)/((225:Int):Rat)*kY t)
def fQ (k:Int):Int:=if k%6=0\/k%6=5 then 1670 else if k%6=1\/k%6=4 then 1795 else 1935
def fT (t:Rat):Rat:=((fQ (prt (bC t) 12):Int):Rat)/((1800:Int):Rat)
def fO (t:Rat):Rat:=dW t*(((1:Int):Rat)/((360:Int):Rat))*(sof (mof t pay)*(((573:Int):Rat)/((10:Int):Rat))*kY t*(((1:Int):Rat)/((360:Int):Rat)))*pyr
def kap:Rat:=((1577917828:Int):Rat)/((1582237828:Int):Rat)*(((1:Int):Rat)/((360:Int):Rat))
def kL (lon:Rat):Rat:=(((45461:Int):Rat)/((600:Int):Rat)-lon)*(((1:Int):Rat)/((360:Int):Rat))
def cm (t lat lon:Rat) (qd sg:Int):Rat:=t+((qd:Int):Rat)/((4:Int):Rat)+(kL lon-fO t)+(dW t*fT t*(((qd:Int):Rat)/((4:Int):Rat))+((sg:Int):Rat)*eK t lat)*kap
def bi (x:Rat):Rat:=(((x*((1048576:Int):Rat)).floor :Int):Rat)*(((1:Int):Rat)/((1048576:Int):Rat))
theorem ma (x:Rat):x-1/1000000<=bi x/\bi x<=x:=by
 have a:=fl (x*((1048576:Int):Rat))
 have b:=gE (x*((1048576:Int):Rat))
 unfold bi
 rw[show((1:Int):Rat)/((1048576:Int):Rat)=1/1048576 by decide+kernel]
 rw[show((1048576:Int):Rat)=1048576 from rfl] at*
 constructor <;> grind
theorem Gi (t:Rat):13/360<=kY t/\kY t<=14/360:=by
 have b:=gw (mof t pay)
 have c:(sof (mof t pay)).abs <=1:=gy b.1 b.2
 have d:(0:Rat)<=(sof (mof t pay)).abs :=Rat.abs_nonneg
 unfold kY
 rw[show((14:Int):Rat)/((360:Int):Rat)=14/360 by decide+kernel,show((1:Int):Rat)/((1080:Int):Rat)=1/1080 by decide+kernel]
 constructor <;> grind
theorem J0 (x:Rat): -1<=((ki x:Int):Rat)/((225:Int):Rat)/\((ki x:Int):Rat)/((225:Int):Rat)<=1:=by
 have s:=gH (pk x)
 have a:=cf s.1
 have b:=cf s.2
 rw[show((-225:Int):Rat)= -225 from rfl] at a
 rw[show((225:Int):Rat)=225 from rfl] at b ⊢
 unfold ki
 exact⟨jq (by grind) (by grind),jk (by grind) (by grind)⟩
theorem qI (t:Rat):947/1000<=dW t/\dW t<=1025/1000:=by
 have p:=Gi t
 have s:=J0 (mof t pay)
 have m:=eE (b:=14/360) (a:=1) (x:=((ki (mof t pay):Int):Rat)/((225:Int):Rat)) (y:=kY t) (by grind) (by grind) s.1 s.2 (by grind) p.2
 have k1:985/1000<=((360:Int):Rat)/pyr:=by decide+kernel
 have k2:986/1000≥((360:Int):Rat)/pyr:=by decide+kernel
 have k3:9856/10000<=((360:Int):Rat)/pyr:=by decide+kernel
 unfold dW
 rw[Rat.intCast_one]
 generalize ((ki (mof t pay):Int):Rat)/((225:Int):Rat)*kY t=y at*
 generalize ((360:Int):Rat)/pyr=c at*
 have u:=Rat.mul_nonneg (a:=c-9856/10000) (b:=1-y) (by grind) (by grind)
 have v:=Rat.mul_nonneg (a:=986/1000-c) (b:=1-y) (by grind) (by grind)
 constructor <;> grind
theorem Ka (t:Rat):1670/1800<=fT t/\fT t<=1935/1800:=by
 have h:1670<=fQ (prt (bC t) 12)/\fQ (prt (bC t) 12)<=1935:=by unfold fQ;split <;> (try split) <;> omega
 have a:=cf h.1
 have b:=cf h.2
 rw[show((1670:Int):Rat)=1670 from rfl] at a
 rw[show((1935:Int):Rat)=1935 from rfl] at b
 unfold fT
 rw[show((1800:Int):Rat)=1800 from rfl]
 exact⟨jq (by grind) (by grind),jk (by grind) (by grind)⟩
theorem gM (t:Rat):87/100<=dW t*fT t/\dW t*fT t<=111/100:=by
 have m:=qI t
 have r:=Ka t
 have u:=Rat.mul_nonneg (a:=dW t-947/1000) (b:=fT t) (by grind) (by grind)
 have v:=Rat.mul_nonneg (a:=1025/1000-dW t) (b:=fT t) (by grind) (by grind)
 constructor <;> grind
theorem mR:277/100000<=kap/\kap<=27703/10000000:=by decide+kernel
theorem JW (t:Rat):sof (mof t pay)*(((573:Int):Rat)/((10:Int):Rat))*kY t=573/10*epi (sof (mof t pay)) ssz sch:=by
 unfold kY epi
 rw[tC.1,tC.2.1,show((573:Int):Rat)/((10:Int):Rat)=573/10 by decide+kernel,show((14:Int):Rat)/((360:Int):Rat)=7/180 by decide+kernel,show((1:Int):Rat)/((1080:Int):Rat)=1/1080 by decide+kernel]
 grind
theorem uP (t:Rat):fO t=dW t*(epi (sof (mof t pay)) ssz sch*(573/10*(1/360)*(1/360)*pyr)):=by
 unfold fO
 rw[JW,show((1:Int):Rat)/((360:Int):Rat)=1/360 by decide+kernel];grind
theorem AM:16/100<=573/10*(1/360)*(1/360)*pyr/\573/10*(1/360)*(1/360)*pyr<=162/1000:=by decide+kernel
theorem Fo (t:Rat): -(41/1080)<=epi (sof (mof t pay)) ssz sch/\epi (sof (mof t pay)) ssz sch<=41/1080:=by
 have b:=gw (mof t pay)
 have e:=qC (s:=ssz) (c:=sch) b.1 b.2 (by decide+kernel) (by decide+kernel) (by decide+kernel)
 have k:ssz*(1-sch)=41/1080:=by decide+kernel
 rw[k] at e;exact e
theorem nM (t:Rat): -(64/10000)<=fO t/\fO t<=64/10000:=by
 have m:=qI t
 have e:=Fo t
 have c:=AM
 have n:=eE (a:=41/1080) (b:=162/1000) (x:=epi (sof (mof t pay)) ssz sch) (y:=573/10*(1/360)*(1/360)*pyr) (by grind) (by grind) e.1 e.2 (by grind) c.2
 have o:=eE (a:=1025/1000) (b:=41/1080*(162/1000)) (x:=dW t) (by grind) (by grind) (by grind) m.2 n.1 n.2
 rw[uP]
 constructor <;> grind
theorem GA (t:Rat):(epi (sof (mof (t+((1:Int):Rat)) pay)) ssz sch-epi (sof (mof t pay)) ssz sch).abs <=7/180*(60/3438*(986/1000)):=by
 have l:=ot (((360:Int):Rat)*bg (t+((1:Int):Rat)) pay) (((360:Int):Rat)*bg t pay)
 rw[<-n0 iG,<-n0 iG,f7,show((60:Int):Rat)/((3438:Int):Rat)=60/3438 by decide+kernel] at l
 have d:(((360:Int):Rat)*(bg t pay+((1:Int):Rat)/pay)-((360:Int):Rat)*bg t pay).abs <=986/1000:=by
  rw[show((360:Int):Rat)*(bg t pay+((1:Int):Rat)/pay)-((360:Int):Rat)*bg t pay=((360:Int):Rat)*(((1:Int):Rat)/pay) by grind]
  decide+kernel
 have bt:=gw (mof t pay)
 have bu:=gw (mof (t+((1:Int):Rat)) pay)
 have s1:=tC.1
 have s2:=tC.2.1
 generalize sof (mof (t+((1:Int):Rat)) pay)=b at*
 generalize sof (mof t pay)=x at*
 have n:(b-x).abs <=60/3438*(986/1000):=by grind
 rcases Rat.le_total (a:=x) (b:=b) with h|h
 ·have e:=jO (s:=ssz) (c:=sch) bt.1 bu.2 h (by decide+kernel) (by decide+kernel) (by decide+kernel)
  rw[Rat.abs_of_nonneg (x:=b-x) (by grind)] at n
  rw[Rat.abs_of_nonneg e.1]
  rw[s1] at e ⊢
  grind
 ·have e:=jO (s:=ssz) (c:=sch) bu.1 bt.2 h (by decide+kernel) (by decide+kernel) (by decide+kernel)
  rw[Rat.abs_of_nonpos (x:=b-x) (by grind)] at n
  rw[Rat.abs_of_nonpos (by grind)]
  rw[s1] at e ⊢
  grind
theorem xz (t:Rat):(fO (t+((1:Int):Rat))-fO t).abs <=1/1000:=by
 have m:=qI t
 have m':=qI (t+((1:Int):Rat))
 have e:=Fo t
 have d:=eU (GA t)
 have c:=AM
 rw[uP,uP]
 generalize epi (sof (mof (t+((1:Int):Rat)) pay)) ssz sch=b at*
 generalize epi (sof (mof t pay)) ssz sch=x at*
 generalize dW (t+((1:Int):Rat))=n at*
 generalize dW t=o at*
 generalize 573/10*(1/360)*(1/360)*pyr=k at*
 have u:=eE (a:=1025/1000) (b:=7/180*(60/3438*(986/1000))) (x:=n) (y:=b-x) (by grind) (by grind) (by grind) (by grind) (by grind) (by grind)
 have v:=eE (a:=78/1000) (b:=41/1080) (x:=n-o) (y:=x) (by grind) (by grind) (by grind) (by grind) e.1 e.2
 have q:=eE (a:=1025/1000*(7/180*(60/3438*(986/1000)))+78/1000*(41/1080)) (b:=162/1000) (x:=n*(b-x)+(n-o)*x) (y:=k) (by grind) (by grind) (by grind) (by grind) (by grind) (by grind)
 rw[show n*(b*k)-o*(x*k)=(n*(b-x)+(n-o)*x)*k by grind]
 exact gy (by grind) (by grind)
theorem BU (t:Rat) {lat:Rat} (lon:Rat) (h0: -60<=lat) (h1:lat<=60):985/1000<=cm (t+((1:Int):Rat)) lat lon 1 1-cm t lat lon 1 1/\cm (t+((1:Int):Rat)) lat lon 1 1-cm t lat lon 1 1<=1015/1000:=by
 have e:=eU (xz t)
 have d:=eU (vi t h0 h1)
 have s:=gM t
 have s':=gM (t+((1:Int):Rat))
 have k:=mR
 unfold cm
 rw[show((1:Int):Rat)/((4:Int):Rat)=1/4 by decide+kernel,Rat.intCast_one] at*
 generalize eK (t+1) lat=d2 at*
 generalize eK t lat=d1 at*
 generalize dW (t+1)*fT (t+1)=s2 at*
 generalize dW t*fT t=s1 at*
 generalize fO (t+1)=e2 at*
 generalize fO t=e1 at*
 have m:=eE (a:=1/4*(111/100-87/100)+27/10) (b:=27703/10000000) (x:=(s2*(1/4)+1*d2)-(s1*(1/4)+1*d1)) (y:=kap) (by grind) (by grind) (by grind) (by grind) (by grind) k.2
 constructor <;> grind
end Go.Proofs.YtgdpkknapcgcbaaGreatDoor
